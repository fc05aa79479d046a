/- The contract of the program's Encode. Conditions: as each statement has them. -/
import Derived.Test.YtbgfmegepekapaaGreatB2
import Derived.Test.YtbgfmegepekapaaGreatB5
import Derived.Test.YtbgfmegepekapaaGreatB6
import Derived.Test.YtbgfmegepekapaaGreatFD
import Derived.Test.YtbgfmegepekapaaGreatGM
import Derived.Test.YtbgfmegepekapaaGreatGN
import Derived.Test.YtbgfmegepekapaaGreatGW
import Derived.Test.YtbgfmegepekapaaGreatPF
import Derived.Test.YtbgfmegepekapaaGreatWF
namespace Go.Proofs.YtbgfmegepekapaaGreat
open Go.RowKit
attribute [local go_sem ↓] Go.wp_at_zero Go.wp_at_succ
/-- The encoding of a text. -/
def rawE (l:List UInt8):List UInt8:=uv l.length ++ l
/-- What Encode returns. -/
def encP (p q u v:Int):List UInt8:=rawE (fracT p q) ++ rawE (fracT u v)
theorem raw_inj {a b r s:List UInt8} (ha:a.length < 18446744073709551616) (hb:b.length < 18446744073709551616) (h:rawE a ++ r=rawE b ++ s):a=b∧r=s:=by
 have e1:=partS_rt a r ha
 have e2:=partS_rt b s hb
 unfold rawE at h
 rw [h,e2] at e1
 injection e1 with e1 e3
 injection e3 with e3
 exact ⟨e1.symm,e3.symm⟩
theorem enc_inj {p q u v p' q' u' v':Int} (h1:(fracT p q).length≤1000) (h2:(fracT u v).length≤1000) (h3:(fracT p' q').length≤1000) (h4:(fracT u' v').length≤1000) (h:encP p q u v=encP p' q' u' v'):fracT p q=fracT p' q'∧fracT u v=fracT u' v':=by
 unfold encP at h
 obtain ⟨e1,e2⟩:=raw_inj (by omega) (by omega) h
 have e3:rawE (fracT u v) ++ []=rawE (fracT u' v') ++ []:=by rw [List.append_nil,List.append_nil]; exact e2
 exact ⟨e1,(raw_inj (by omega) (by omega) e3).1⟩
theorem in_conv {w W1:World} {g n c:Nat} {a:Option Addr} {xs:List Int} (hg:g < w.heap.size) (ha:∀ x,blk a=some x→x < w.heap.size) (_:w.heap.size < W1.heap.size) (h:Rd .u8 W1 W1.heap.size (.slice (some ⟨w.heap.size,0,none⟩) n c) xs):In .u8 W1 (fun X=>X < W1.heap.size∧X≠g∧blk a≠some X) (.slice (some ⟨w.heap.size,0,none⟩) n c) xs:=by
 rcases h with ⟨h0,_⟩ | ⟨b,off,c',h1,h2,h3,h4⟩
 ·cases h0
 ·have hb:b=w.heap.size:=by injection h1 with e1; injection e1 with e1; injection e1 with e1; exact e1.symm
  exact .inr ⟨b,off,c',h1,h2,⟨h3,by omega,fun e=>by have:=ha b e; omega⟩,h3,h4⟩
theorem wra_row {w:World} {g:Nat} {a:Option Addr} {bs:List UInt8} (h:WrA w g a bs):∀ x,blk a=some x→x < w.heap.size:=by
 obtain ⟨c,_,h2⟩:=h
 intro x hx
 rcases h2.2 with ⟨h0,_⟩ | ⟨b,cap,cur,h0,_,hh,_⟩
 ·injection h0 with h0; rw [h0] at hx; cases hx
 ·injection h0 with h0; rw [h0] at hx; injection hx with hx; rw [←hx]; exact (Array.getElem?_eq_some_iff.1 hh).1
set_option maxRecDepth 100000 in
set_option maxHeartbeats 6400000 in
theorem fracs_same (s0:Bool) (A0:Option Addr) (n0 c0:Nat) (t0:Bool) (B0:Option Addr) (m0 d0:Nat) (s1:Bool) (A1:Option Addr) (n1 c1:Nat) (t1:Bool) (B1:Option Addr) (m1 d1:Nat) (w:World) :
  Calls Tryz.prog 41 #[.agg #[.bool s0,.slice A0 n0 c0,.bool t0,.slice B0 m0 d0,.bool s1,.slice A1 n1 c1,.bool t1,.slice B1 m1 d1]] w fun e w'=>e=.returned (.agg #[.bool s0,.slice A0 n0 c0,.bool t0,.slice B0 m0 d0,.bool s1,.slice A1 n1 c1,.bool t1,.slice B1 m1 d1])∧Below w.heap.size w w':=by
 obtain ⟨W,hW⟩:∃ W,(w.alloc (.cells #[.bool s0,.slice A0 n0 c0,.bool t0,.slice B0 m0 d0,.bool s1,.slice A1 n1 c1,.bool t1,.slice B1 m1 d1] 29)).alloc (.cells #[.bool false,.slice none 0 0,.bool false,.slice none 0 0,.bool false,.slice none 0 0,.bool false,.slice none 0 0] 82)=W:=⟨_,rfl⟩
 have HK:=hJ (show Below w.heap.size w W by rw [←hW]; exact ((Below.refl _ w).alloc (Nat.le_refl _) _).alloc (by simp) _)
 have HA:=hJ (show P8 29 W w.heap.size (.bool s0) (.slice A0 n0 c0) (.bool t0) (.slice B0 m0 d0) (.bool s1) (.slice A1 n1 c1) (.bool t1) (.slice B1 m1 d1) by rw [←hW]; exact (P8.lit w _ _ _ _ _ _ _ _ _).new ((Below.refl _ _).alloc (Nat.le_refl _) _))
 have HZ:=hJ (show P8 82 W (w.heap.size+1) (.bool false) (.slice none 0 0) (.bool false) (.slice none 0 0) (.bool false) (.slice none 0 0) (.bool false) (.slice none 0 0) by
  rw [←hW]
  have h0:=P8.lit (w.alloc (.cells #[.bool s0,.slice A0 n0 c0,.bool t0,.slice B0 m0 d0,.bool s1,.slice A1 n1 c1,.bool t1,.slice B1 m1 d1] 29)) 82 (.bool false) (.slice none 0 0) (.bool false) (.slice none 0 0) (.bool false) (.slice none 0 0) (.bool false) (.slice none 0 0)
  rw [World.size_alloc] at h0
  exact h0)
 obtain ⟨⟨p0,p1,p2,p3⟩,p4,p5,p6,p7⟩:=HA.out.cells
 obtain ⟨⟨z0,z1,z2,z3⟩,z4,z5,z6,z7⟩:=HZ.out.cells
 have f0:=HZ.out.frozen 0
 have f1:=HZ.out.frozen 1
 have f2:=HZ.out.frozen 2
 have f3:=HZ.out.frozen 3
 have f4:=HZ.out.frozen 4
 have f5:=HZ.out.frozen 5
 have f6:=HZ.out.frozen 6
 have f7:=HZ.out.frozen 7
 go_enter Tryz.func41,Tryz.ntmps41
 go_wp2
 exact bodyPost_ret (results_cell_row rfl _ _ _ _ _ _ _ rfl (HZ.out.all (.bool s0) (.slice A0 n0 c0) (.bool t0) (.slice B0 m0 d0) (.bool s1) (.slice A1 n1 c1) (.bool t1) (.slice B1 m1 d1)) Tryz.underlying82 rfl T8_size) rfl ⟨rfl,below8 HK.out (by omega) _ _ _ _ _ _ _ _⟩
set_option maxRecDepth 100000 in
set_option maxHeartbeats 6400000 in
theorem encode_any (p q u v:Int) (s0:Bool) (A0:Option Addr) (n0 c0:Nat) (t0:Bool) (B0:Option Addr) (m0 d0:Nat) (s1:Bool) (A1:Option Addr) (n1 c1:Nat) (t1:Bool) (B1:Option Addr) (m1 d1:Nat) (w:World) (h0:PF w s0 A0 n0 c0 t0 B0 m0 d0 p q) (h1:PF w s1 A1 n1 c1 t1 B1 m1 d1 u v) (hl:(0 < q∧p.natAbs < lim∧q.natAbs < lim)∧(0 < v∧u.natAbs < lim∧v.natAbs < lim)) (ht:(fracT p q).length≤1000∧(fracT u v).length≤1000) :
  Calls Tryz.prog 8 #[.agg #[.bool s0,.slice A0 n0 c0,.bool t0,.slice B0 m0 d0,.bool s1,.slice A1 n1 c1,.bool t1,.slice B1 m1 d1]] w (Fresh .u8 5 (bI (encP p q u v)) w):=by
 have HL:=hJ hl
 have HT:=hJ ht
 clear hl ht
 obtain ⟨W0,hW0⟩:∃ W,w.alloc (.cells #[.bool s0,.slice A0 n0 c0,.bool t0,.slice B0 m0 d0,.bool s1,.slice A1 n1 c1,.bool t1,.slice B1 m1 d1] 29)=W:=⟨_,rfl⟩
 have aO:=hJ (show Below w.heap.size w W0 by rw [←hW0]; exact (Below.refl _ w).alloc (Nat.le_refl _) _)
 have aR:=hJ (show P8 29 W0 w.heap.size (.bool s0) (.slice A0 n0 c0) (.bool t0) (.slice B0 m0 d0) (.bool s1) (.slice A1 n1 c1) (.bool t1) (.slice B1 m1 d1) by rw [←hW0]; exact P8.lit _ _ _ _ _ _ _ _ _ _)
 obtain ⟨W,hW⟩:∃ W,W0.alloc (.cells #[.slice none 0 0] 37)=W:=⟨_,rfl⟩
 have aS:=hJ (show Below W0.heap.size W0 W by rw [←hW]; exact (Below.refl _ _).alloc (Nat.le_refl _) _)
 have HG:=hJ (show WrA W W0.heap.size none [] by rw [←hW]; exact WrA.zero W0)
 have HA:=hJ (aR.out.new aS.out)
 have HK:=hJ (bt aO.out aS.out)
 have H2:=hJ h0
 have H3:=hJ h1
 obtain ⟨g,hg⟩:∃ g,W0.heap.size=g:=⟨_,rfl⟩
 rw [hg] at HG
 have aT:=hJ (show w.heap.size≤g by rw [←hg]; exact aO.out.size)
 obtain ⟨h,hh⟩:∃ h,w.heap.size=h:=⟨_,rfl⟩
 rw [hh] at HA
 clear h0 h1 aR
 obtain ⟨⟨p0,p1,p2,p3⟩,p4,p5,p6,p7⟩:=HA.out.cells
 go_enter Tryz.func8,Tryz.ntmps8
 go_wp2_with fail
 clear hW hW0 hg
 refine (fracs_same s0 A0 n0 c0 t0 B0 m0 d0 s1 A1 n1 c1 t1 B1 m1 d1 W).mono ?_
 rintro e w1 ⟨rfl,hb1⟩
 have aB:=hJ (HG.out.new hb1)
 have aU:=hJ (bt HK.out hb1)
 clear hb1 p0 p1 p2 p3 p4 p5 p6 p7 HA HG HK
 go_wp2_with fail
 clear hh
 go_loopw [8] (fun tv wr=>∃ (i:Nat) (a:Option Addr) (bs:List UInt8),i≤2∧tv=.int .i64 (i:Int)∧WrA wr g a bs∧Hid ((i=0→bs=[])∧(i=1→bs=rawE (fracT p q))∧(i=2→bs=encP p q u v))∧Below w.heap.size w wr) (fun tv _=>2 - (intOf tv).toNat)
 case atStart=>exact ⟨0,none,[],by omega,rfl,aB.out,hJ ⟨fun _=>rfl,fun h=>by omega,fun h=>by omega⟩,aU.out⟩
 case round =>
  clear aB aU
  obtain ⟨i,a,bs,hi,rfl,hg,hbs,hbel⟩:=hrel
  have HG:=hJ hg
  have HB:=hJ hbel
  clear hg hbel
  have hi3:i=0∨i=1∨i=2:=by omega
  rcases hi3 with rfl | rfl | rfl
  ·obtain rfl:bs=[]:=hbs.out.1 rfl
   have hix:∀ wx:World,(Instr.index 82 (.agg #[.bool s0,.slice A0 n0 c0,.bool t0,.slice B0 m0 d0,.bool s1,.slice A1 n1 c1,.bool t1,.slice B1 m1 d1]) (.int .i64 0)).run Tryz.prog wx=.ok (.agg #[.bool s0,.slice A0 n0 c0,.bool t0,.slice B0 m0 d0]) wx:=fun wx=>by kernel_rfl
   obtain ⟨x1,aC⟩:=nmz (wr.alloc (.cells #[.bool s0,.slice A0 n0 c0,.bool t0,.slice B0 m0 d0] 27))
   have aD:=hJ (show Below wr.heap.size wr x1 by rw [←aC]; exact (Below.refl _ _).alloc (Nat.le_refl _) _)
   have HQ:=hJ (show P4 27 x1 wr.heap.size (.bool s0) (.slice A0 n0 c0) (.bool t0) (.slice B0 m0 d0) by rw [←aC]; exact P4.lit _ _ _ _ _ _)
   have aB:=hJ (HG.out.new aD.out)
   have aF:=hJ (bt HB.out aD.out)
   obtain ⟨z0,z1,z2,z3⟩:=HQ.out.cells
   go_wp2_with fail
   clear aC hix
   refine (fstring_any p q s0 t0 A0 B0 n0 c0 m0 d0 x1 (H2.out.new aF.out) HL.out.1.2.1 HL.out.1.2.2 HL.out.1.1).mono ?_
   rintro e x2 ⟨rfl,hb2⟩
   have aV:=hJ hb2
   have aA:=hJ (aB.out.new hb2)
   have aG:=hJ (bt aF.out hb2)
   clear hb2 z0 z1 z2 z3 aB HQ
   obtain ⟨l,hl⟩:∃ l,fracT p q=l:=⟨_,rfl⟩
   have hll:l.length≤1000:=by rw [←hl]; exact HT.out.1
   rw [hl]
   have aH:=hJ hl
   clear hl
   obtain ⟨x3,c3,hrun,hb3,hrd⟩:=conv_bytes (P:=Tryz.prog) x2 9 22 5 ⟨l.toArray⟩ Tryz.underlying9 Tryz.underlying22 Tryz.underlying5
   have hsz:(ByteArray.mk l.toArray).size=l.length:=by simp [ByteArray.size]
   rw [hsz] at hrun hrd
   have hsl:x2.heap.size < x3.heap.size:=by
    have:=hrd
    rcases this with ⟨h0,_⟩ | ⟨b,off,c',h1,_,h3,_⟩
    ·cases h0
    injection h1 with e1; injection e1 with e1; injection e1 with e1; omega
   have aI:=hJ (in_conv aA.out.wr.lt (wra_row aA.out) hsl hrd)
   have aJ:=hJ (aA.out.new hb3)
   have aK:=hJ (bt aG.out hb3)
   have aL:=hJ hll
   clear hb3 hrd hsz hsl hll aA
   go_wp2_with fail
   clear hrun
   refine (wrawf_any l (some ⟨x2.heap.size,0,none⟩) l.length c3 g a ([]) x3 rfl aL.out (by have:=aI.out; simpa using this) aJ.out (by simp)).mono ?_
   rintro e x4 ⟨rfl,a',hg4,hfr,hb4⟩
   have aM:=hJ hg4
   have aW:=hJ hfr
   have aN:=hJ hb4
   clear hg4 hfr hb4
   go_wp2_with fail
   go_roundw
   case rel=>exact ⟨1,a',_,by omega,by go_num,aM.out,hJ ⟨fun h=>by omega,fun h=>by rw [aH.out]; rfl,fun h=>by omega⟩,(aK.out).trans (aN.out.mono aT.out)⟩
   case measure=>simp [intOf]
  ·obtain rfl:bs=rawE (fracT p q):=hbs.out.2.1 rfl
   have hix:∀ wx:World,(Instr.index 82 (.agg #[.bool s0,.slice A0 n0 c0,.bool t0,.slice B0 m0 d0,.bool s1,.slice A1 n1 c1,.bool t1,.slice B1 m1 d1]) (.int .i64 1)).run Tryz.prog wx=.ok (.agg #[.bool s1,.slice A1 n1 c1,.bool t1,.slice B1 m1 d1]) wx:=fun wx=>by kernel_rfl
   obtain ⟨x1,aC⟩:=nmz (wr.alloc (.cells #[.bool s1,.slice A1 n1 c1,.bool t1,.slice B1 m1 d1] 27))
   have aD:=hJ (show Below wr.heap.size wr x1 by rw [←aC]; exact (Below.refl _ _).alloc (Nat.le_refl _) _)
   have HQ:=hJ (show P4 27 x1 wr.heap.size (.bool s1) (.slice A1 n1 c1) (.bool t1) (.slice B1 m1 d1) by rw [←aC]; exact P4.lit _ _ _ _ _ _)
   have aB:=hJ (HG.out.new aD.out)
   have aF:=hJ (bt HB.out aD.out)
   obtain ⟨z0,z1,z2,z3⟩:=HQ.out.cells
   go_wp2_with fail
   clear aC hix
   refine (fstring_any u v s1 t1 A1 B1 n1 c1 m1 d1 x1 (H3.out.new aF.out) HL.out.2.2.1 HL.out.2.2.2 HL.out.2.1).mono ?_
   rintro e x2 ⟨rfl,hb2⟩
   have aV:=hJ hb2
   have aA:=hJ (aB.out.new hb2)
   have aG:=hJ (bt aF.out hb2)
   clear hb2 z0 z1 z2 z3 aB HQ
   obtain ⟨l,hl⟩:∃ l,fracT u v=l:=⟨_,rfl⟩
   have hll:l.length≤1000:=by rw [←hl]; exact HT.out.2
   rw [hl]
   have aH:=hJ hl
   clear hl
   obtain ⟨x3,c3,hrun,hb3,hrd⟩:=conv_bytes (P:=Tryz.prog) x2 9 22 5 ⟨l.toArray⟩ Tryz.underlying9 Tryz.underlying22 Tryz.underlying5
   have hsz:(ByteArray.mk l.toArray).size=l.length:=by simp [ByteArray.size]
   rw [hsz] at hrun hrd
   have hsl:x2.heap.size < x3.heap.size:=by
    have:=hrd
    rcases this with ⟨h0,_⟩ | ⟨b,off,c',h1,_,h3,_⟩
    ·cases h0
    injection h1 with e1; injection e1 with e1; injection e1 with e1; omega
   have aI:=hJ (in_conv aA.out.wr.lt (wra_row aA.out) hsl hrd)
   have aJ:=hJ (aA.out.new hb3)
   have aK:=hJ (bt aG.out hb3)
   have aL:=hJ hll
   clear hb3 hrd hsz hsl hll aA
   go_wp2_with fail
   clear hrun
   refine (wrawf_any l (some ⟨x2.heap.size,0,none⟩) l.length c3 g a (rawE (fracT p q)) x3 rfl aL.out (by have:=aI.out; simpa using this) aJ.out (by unfold rawE; rw [List.length_append]; have h1:=HT.out.1; have h2:=uv_len10 (n:=(fracT p q).length) (by omega); omega)).mono ?_
   rintro e x4 ⟨rfl,a',hg4,hfr,hb4⟩
   have aM:=hJ hg4
   have aW:=hJ hfr
   have aN:=hJ hb4
   clear hg4 hfr hb4
   go_wp2_with fail
   go_roundw
   case rel=>exact ⟨2,a',_,by omega,by go_num,aM.out,hJ ⟨fun h=>by omega,fun h=>by omega,fun h=>by unfold encP; rw [aH.out]; rfl⟩,(aK.out).trans (aN.out.mono aT.out)⟩
   case measure=>simp [intOf]
  ·obtain rfl:bs=encP p q u v:=hbs.out.2.2 rfl
   go_wp2_with fail
   refine (wdone_any g (encP p q u v) wr HG.out.wr (by unfold encP rawE; simp only [List.length_append]; have h1:=HT.out.1; have h2:=HT.out.2; have h3:=uv_len10 (n:=(fracT p q).length) (by omega); have h4:=uv_len10 (n:=(fracT u v).length) (by omega); omega)).mono ?_
   rintro e x9 ⟨a9,c9,rfl,hown,hb9⟩
   have aX:=hJ hown
   have aY:=hJ (bt HB.out hb9)
   clear hown hb9
   go_wp2_with fail
   go_ret
   exact ⟨a9,c9,rfl,own_base aX.out HB.out.size,aY.out⟩
end Go.Proofs.YtbgfmegepekapaaGreat
