/- What else is needed of the texts below. Conditions: as each statement has them. -/

import Derived.Test.YtbgfmegepekapaaGreatB2
import Derived.Test.YtbgfmegepekapaaGreatB5
import Derived.Test.YtbgfmegepekapaaGreatFD
import Derived.Test.YtbgfmegepekapaaGreatFF
import Derived.Test.YtbgfmegepekapaaGreatFG
import Derived.Test.YtbgfmegepekapaaGreatFI
import Derived.Test.YtbgfmegepekapaaGreatGM
import Derived.Test.YtbgfmegepekapaaGreatGN
import Derived.Test.YtbgfmegepekapaaGreatPF
import Derived.Test.YtbgfmegepekapaaGreatPM
import Derived.Test.YtbgfmegepekapaaGreatQL

namespace Go.Proofs.YtbgfmegepekapaaGreat
open Go.RowKit
attribute [local go_sem ↓] Go.wp_at_zero Go.wp_at_succ
/-- The order of two points. -/
def pcV (p q u v p' q' u' v':Int):Int:=if cmpI (p*q') (p'*q)=0 then cmpI (u*v') (u'*v) else cmpI (p*q') (p'*q)
set_option maxRecDepth 100000 in
set_option maxHeartbeats 6400000 in
theorem porder_any (p q u v p' q' u' v':Int) (s0:Bool) (A0:Option Addr) (n0 c0:Nat) (t0:Bool) (B0:Option Addr) (m0 d0:Nat) (s1:Bool) (A1:Option Addr) (n1 c1:Nat) (t1:Bool) (B1:Option Addr) (m1 d1:Nat) (s2:Bool) (A2:Option Addr) (n2 c2:Nat) (t2:Bool) (B2:Option Addr) (m2 d2:Nat) (s3:Bool) (A3:Option Addr) (n3 c3:Nat) (t3:Bool) (B3:Option Addr) (m3 d3:Nat) (w:World) (h0:PF w s0 A0 n0 c0 t0 B0 m0 d0 p q) (h1:PF w s1 A1 n1 c1 t1 B1 m1 d1 u v) (h2:PF w s2 A2 n2 c2 t2 B2 m2 d2 p' q') (h3:PF w s3 A3 n3 c3 t3 B3 m3 d3 u' v') (hl:(0 < q∧p.natAbs < lim∧q.natAbs < lim)∧(0 < v∧u.natAbs < lim∧v.natAbs < lim)∧(0 < q'∧p'.natAbs < lim∧q'.natAbs < lim)∧(0 < v'∧u'.natAbs < lim∧v'.natAbs < lim)) :
  Calls Tryz.prog 52 #[.agg #[.bool s0,.slice A0 n0 c0,.bool t0,.slice B0 m0 d0,.bool s1,.slice A1 n1 c1,.bool t1,.slice B1 m1 d1],.agg #[.bool s2,.slice A2 n2 c2,.bool t2,.slice B2 m2 d2,.bool s3,.slice A3 n3 c3,.bool t3,.slice B3 m3 d3],.func (.func 26) #[] #[]] w fun e w'=>e=.returned (.int .i64 (pcV p q u v p' q' u' v'))∧Below w.heap.size w w':=by
 obtain ⟨C,hC⟩:∃ c,pcV p q u v p' q' u' v'=c:=⟨_,rfl⟩
 have HC:=hJ hC
 rw [hC]
 clear hC
 have HL:=hJ hl
 clear hl
 obtain ⟨W,hW⟩:∃ W,(w.alloc (.cells #[.bool s0,.slice A0 n0 c0,.bool t0,.slice B0 m0 d0,.bool s1,.slice A1 n1 c1,.bool t1,.slice B1 m1 d1] 82)).alloc (.cells #[.bool s2,.slice A2 n2 c2,.bool t2,.slice B2 m2 d2,.bool s3,.slice A3 n3 c3,.bool t3,.slice B3 m3 d3] 82)=W:=⟨_,rfl⟩
 have HK:=hJ (show Below w.heap.size w W by rw [←hW]; exact ((Below.refl _ w).alloc (Nat.le_refl _) _).alloc (by simp) _)
 have HA:=hJ (show P8 82 W w.heap.size (.bool s0) (.slice A0 n0 c0) (.bool t0) (.slice B0 m0 d0) (.bool s1) (.slice A1 n1 c1) (.bool t1) (.slice B1 m1 d1) by rw [←hW]; exact (P8.lit w _ _ _ _ _ _ _ _ _).new ((Below.refl _ _).alloc (Nat.le_refl _) _))
 have HB:=hJ (show P8 82 W (w.heap.size+1) (.bool s2) (.slice A2 n2 c2) (.bool t2) (.slice B2 m2 d2) (.bool s3) (.slice A3 n3 c3) (.bool t3) (.slice B3 m3 d3) by
  rw [←hW]
  have h0:=P8.lit (w.alloc (.cells #[.bool s0,.slice A0 n0 c0,.bool t0,.slice B0 m0 d0,.bool s1,.slice A1 n1 c1,.bool t1,.slice B1 m1 d1] 82)) 82 (.bool s2) (.slice A2 n2 c2) (.bool t2) (.slice B2 m2 d2) (.bool s3) (.slice A3 n3 c3) (.bool t3) (.slice B3 m3 d3)
  rw [World.size_alloc] at h0
  exact h0)
 have H0:=hJ (h0.new HK.out)
 have H1:=hJ (h1.new HK.out)
 have H2:=hJ (h2.new HK.out)
 have H3:=hJ (h3.new HK.out)
 clear h0 h1 h2 h3
 obtain ⟨h,hh⟩:∃ h,w.heap.size=h:=⟨_,rfl⟩
 rw [hh] at HA HB
 go_enter Tryz.func52,Tryz.ntmps52
 go_wp2_with fail
 clear hW hh
 go_loopw [9] (fun tv wr=>∃ i:Nat,i≤2∧tv=.int .i64 (i:Int)∧P8 82 wr h (.bool s0) (.slice A0 n0 c0) (.bool t0) (.slice B0 m0 d0) (.bool s1) (.slice A1 n1 c1) (.bool t1) (.slice B1 m1 d1)∧P8 82 wr (h+1) (.bool s2) (.slice A2 n2 c2) (.bool t2) (.slice B2 m2 d2) (.bool s3) (.slice A3 n3 c3) (.bool t3) (.slice B3 m3 d3)∧PF wr s0 A0 n0 c0 t0 B0 m0 d0 p q∧PF wr s1 A1 n1 c1 t1 B1 m1 d1 u v∧PF wr s2 A2 n2 c2 t2 B2 m2 d2 p' q'∧PF wr s3 A3 n3 c3 t3 B3 m3 d3 u' v'∧Hid ((0 < i→cmpI (p*q') (p'*q)=0)∧(1 < i→cmpI (u*v') (u'*v)=0))∧Below w.heap.size w wr) (fun tv _=>2 - (intOf tv).toNat)
 case atStart=>exact ⟨0,by omega,rfl,HA.out,HB.out,H0.out,H1.out,H2.out,H3.out,hJ ⟨fun h=>by omega,fun h=>by omega⟩,HK.out⟩
 case round =>
  clear HA HB HK H0 H1 H2 H3
  obtain ⟨i,hi,rfl,ha,hb,h0,h1,h2,h3,hle,hbel⟩:=hrel
  have HA:=hJ ha
  have HB:=hJ hb
  have H0:=hJ h0
  have H1:=hJ h1
  have H2:=hJ h2
  have H3:=hJ h3
  have aG:=hJ hbel
  clear ha hb h0 h1 h2 h3 hbel
  have hi3:i=0∨i=1∨i=2:=by omega
  rcases hi3 with rfl | rfl | rfl
  ·have HS:Hid (∀ w',Below wr.heap.size wr w'→(fun w':World=>w'.cell? ⟨h,0,none⟩=some (.bool s0)∧w'.cell? ⟨h,1,none⟩=some (.slice A0 n0 c0)∧w'.cell? ⟨h,2,none⟩=some (.bool t0)∧w'.cell? ⟨h,3,none⟩=some (.slice B0 m0 d0)∧w'.cell? ⟨(h+1),0,none⟩=some (.bool s2)∧w'.cell? ⟨(h+1),1,none⟩=some (.slice A2 n2 c2)∧w'.cell? ⟨(h+1),2,none⟩=some (.bool t2)∧w'.cell? ⟨(h+1),3,none⟩=some (.slice B2 m2 d2)∧Below wr.heap.size wr w') w'):=hJ (fun w' hb=>⟨(HA.out.new hb).cells.1.1,(HA.out.new hb).cells.1.2.1,(HA.out.new hb).cells.1.2.2.1,(HA.out.new hb).cells.1.2.2.2,(HB.out.new hb).cells.1.1,(HB.out.new hb).cells.1.2.1,(HB.out.new hb).cells.1.2.2.1,(HB.out.new hb).cells.1.2.2.2,hb⟩)
   have aI:=hJ (Below.refl wr.heap.size wr)
   obtain ⟨k,hk0⟩:∃ k,cmpI (p*q') (p'*q)=k:=⟨_,rfl⟩
   have aD:=hJ hk0
   clear hk0
   go_wp2_with fail
   obtain ⟨v0,hv0⟩:=nmz (World.drew wr)
   have aB:=hJ (show Below wr.heap.size wr v0 by rw [←hv0]; exact (Below.refl _ _).drew)
   have aF:=hJ (bt aI.out aB.out)
   have X_0:=hJ ((H0.out).new aB.out)
   have Y_0:=hJ ((H2.out).new aB.out)
   refine wp_region_held_drew (S:=(fun w':World=>w'.cell? ⟨h,0,none⟩=some (.bool s0)∧w'.cell? ⟨h,1,none⟩=some (.slice A0 n0 c0)∧w'.cell? ⟨h,2,none⟩=some (.bool t0)∧w'.cell? ⟨h,3,none⟩=some (.slice B0 m0 d0)∧w'.cell? ⟨(h+1),0,none⟩=some (.bool s2)∧w'.cell? ⟨(h+1),1,none⟩=some (.slice A2 n2 c2)∧w'.cell? ⟨(h+1),2,none⟩=some (.bool t2)∧w'.cell? ⟨(h+1),3,none⟩=some (.slice B2 m2 d2)∧Below wr.heap.size wr w')) (by kernel_rfl) ?_ (fun hHeld=>?_)
   ·rw [hv0]
    exact HS.out _ aF.out
   rw [hv0] at hHeld ⊢
   clear hv0 aB
   refine tq 0 ?_
   refine tq 1 ?_
   refine tq 2 ?_
   refine tq 3 ?_
   refine tq 4 ?_
   refine tq 5 ?_
   refine tq 6 ?_
   try simp only [PT]
   refine ryy [7] ?_
   refine .cons rfl (fun K hK=>?_) .nil
   go_simp
   go_at_call 26
   refine (fcompare_any p q p' q' s0 t0 s2 t2 A0 B0 A2 B2 n0 c0 m0 d0 n2 c2 m2 d2 v0 (X_0.out) (Y_0.out) HL.out.1.1 HL.out.2.2.1.1 HL.out.1.2.1 HL.out.1.2.2 HL.out.2.2.1.2.1 HL.out.2.2.1.2.2).mono ?_
   rw [aD.out]
   rintro e v1 ⟨rfl,hk⟩
   have aC:=hJ hk
   go_wp2_with fail
   have aH:=hJ (bt aF.out aC.out)
   have X_1:=hJ ((X_0.out).new aC.out)
   have Y_1:=hJ ((Y_0.out).new aC.out)
   clear hHeld
   refine hK.out _ _ (HS.out _ aH.out) (fun hHeld=>?_)
   clear hK K hk aC aF X_0 Y_0
   refine tq 8 ?_
   try simp only [PT]
   refine wpAnyH_done (by kernel_rfl) ?_ _
   clear hHeld
   have aA:=hJ aH.out
   by_cases hk:k=0
   ·subst hk
    go_wp2
    go_roundw
    case rel=>exact ⟨1,by omega,by go_num,HA.out.new aA.out,HB.out.new aA.out,H0.out.new aA.out,H1.out.new aA.out,H2.out.new aA.out,H3.out.new aA.out,hJ ⟨fun _=>aD.out,fun _=>by omega⟩,bt aG.out aA.out⟩
    case measure=>simp [intOf]
   have HE:=hJ (show k=C by rw [←HC.out]; unfold pcV; rw [if_neg (by rw [aD.out]; exact hk),aD.out])
   have hkb:(k == 0)=false:=by simp [hk]
   clear hk
   go_wp2
   go_ret
   exact ⟨by rw [←HE.out]; rfl,bt aG.out aA.out⟩
  ·have HS:Hid (∀ w',Below wr.heap.size wr w'→(fun w':World=>w'.cell? ⟨h,4,none⟩=some (.bool s1)∧w'.cell? ⟨h,5,none⟩=some (.slice A1 n1 c1)∧w'.cell? ⟨h,6,none⟩=some (.bool t1)∧w'.cell? ⟨h,7,none⟩=some (.slice B1 m1 d1)∧w'.cell? ⟨(h+1),4,none⟩=some (.bool s3)∧w'.cell? ⟨(h+1),5,none⟩=some (.slice A3 n3 c3)∧w'.cell? ⟨(h+1),6,none⟩=some (.bool t3)∧w'.cell? ⟨(h+1),7,none⟩=some (.slice B3 m3 d3)∧Below wr.heap.size wr w') w'):=hJ (fun w' hb=>⟨(HA.out.new hb).cells.2.1,(HA.out.new hb).cells.2.2.1,(HA.out.new hb).cells.2.2.2.1,(HA.out.new hb).cells.2.2.2.2,(HB.out.new hb).cells.2.1,(HB.out.new hb).cells.2.2.1,(HB.out.new hb).cells.2.2.2.1,(HB.out.new hb).cells.2.2.2.2,hb⟩)
   have aI:=hJ (Below.refl wr.heap.size wr)
   obtain ⟨k,hk0⟩:∃ k,cmpI (u*v') (u'*v)=k:=⟨_,rfl⟩
   have aD:=hJ hk0
   clear hk0
   go_wp2_with fail
   obtain ⟨v0,hv0⟩:=nmz (World.drew wr)
   have aB:=hJ (show Below wr.heap.size wr v0 by rw [←hv0]; exact (Below.refl _ _).drew)
   have aF:=hJ (bt aI.out aB.out)
   have X_0:=hJ ((H1.out).new aB.out)
   have Y_0:=hJ ((H3.out).new aB.out)
   refine wp_region_held_drew (S:=(fun w':World=>w'.cell? ⟨h,4,none⟩=some (.bool s1)∧w'.cell? ⟨h,5,none⟩=some (.slice A1 n1 c1)∧w'.cell? ⟨h,6,none⟩=some (.bool t1)∧w'.cell? ⟨h,7,none⟩=some (.slice B1 m1 d1)∧w'.cell? ⟨(h+1),4,none⟩=some (.bool s3)∧w'.cell? ⟨(h+1),5,none⟩=some (.slice A3 n3 c3)∧w'.cell? ⟨(h+1),6,none⟩=some (.bool t3)∧w'.cell? ⟨(h+1),7,none⟩=some (.slice B3 m3 d3)∧Below wr.heap.size wr w')) (by kernel_rfl) ?_ (fun hHeld=>?_)
   ·rw [hv0]
    exact HS.out _ aF.out
   rw [hv0] at hHeld ⊢
   clear hv0 aB
   refine tq 0 ?_
   refine tq 1 ?_
   refine tq 2 ?_
   refine tq 3 ?_
   refine tq 4 ?_
   refine tq 5 ?_
   refine tq 6 ?_
   try simp only [PT]
   refine ryy [7] ?_
   refine .cons rfl (fun K hK=>?_) .nil
   go_simp
   go_at_call 26
   refine (fcompare_any u v u' v' s1 t1 s3 t3 A1 B1 A3 B3 n1 c1 m1 d1 n3 c3 m3 d3 v0 (X_0.out) (Y_0.out) HL.out.2.1.1 HL.out.2.2.2.1 HL.out.2.1.2.1 HL.out.2.1.2.2 HL.out.2.2.2.2.1 HL.out.2.2.2.2.2).mono ?_
   rw [aD.out]
   rintro e v1 ⟨rfl,hk⟩
   have aC:=hJ hk
   go_wp2_with fail
   have aH:=hJ (bt aF.out aC.out)
   have X_1:=hJ ((X_0.out).new aC.out)
   have Y_1:=hJ ((Y_0.out).new aC.out)
   clear hHeld
   refine hK.out _ _ (HS.out _ aH.out) (fun hHeld=>?_)
   clear hK K hk aC aF X_0 Y_0
   refine tq 8 ?_
   try simp only [PT]
   refine wpAnyH_done (by kernel_rfl) ?_ _
   clear hHeld
   have aA:=hJ aH.out
   by_cases hk:k=0
   ·subst hk
    go_wp2
    go_roundw
    case rel=>exact ⟨2,by omega,by go_num,HA.out.new aA.out,HB.out.new aA.out,H0.out.new aA.out,H1.out.new aA.out,H2.out.new aA.out,H3.out.new aA.out,hJ ⟨fun _=>hle.out.1 (by omega),fun _=>aD.out⟩,bt aG.out aA.out⟩
    case measure=>simp [intOf]
   have HE:=hJ (show k=C by rw [←HC.out]; unfold pcV; rw [if_pos (hle.out.1 (by omega)),aD.out])
   have hkb:(k == 0)=false:=by simp [hk]
   clear hk
   go_wp2
   go_ret
   exact ⟨by rw [←HE.out]; rfl,bt aG.out aA.out⟩
  ·have HE:=hJ (show (0:Int)=C by rw [←HC.out]; unfold pcV; rw [if_pos (hle.out.1 (by omega)),hle.out.2 (by omega)])
   go_wp2
   go_ret
   exact ⟨by rw [←HE.out]; rfl,aG.out⟩
set_option maxRecDepth 100000 in
set_option maxHeartbeats 6400000 in
theorem ptcompare_any (p q u v p' q' u' v':Int) (s0:Bool) (A0:Option Addr) (n0 c0:Nat) (t0:Bool) (B0:Option Addr) (m0 d0:Nat) (s1:Bool) (A1:Option Addr) (n1 c1:Nat) (t1:Bool) (B1:Option Addr) (m1 d1:Nat) (s2:Bool) (A2:Option Addr) (n2 c2:Nat) (t2:Bool) (B2:Option Addr) (m2 d2:Nat) (s3:Bool) (A3:Option Addr) (n3 c3:Nat) (t3:Bool) (B3:Option Addr) (m3 d3:Nat) (w:World) (h0:PF w s0 A0 n0 c0 t0 B0 m0 d0 p q) (h1:PF w s1 A1 n1 c1 t1 B1 m1 d1 u v) (h2:PF w s2 A2 n2 c2 t2 B2 m2 d2 p' q') (h3:PF w s3 A3 n3 c3 t3 B3 m3 d3 u' v') (hl:(0 < q∧p.natAbs < lim∧q.natAbs < lim)∧(0 < v∧u.natAbs < lim∧v.natAbs < lim)∧(0 < q'∧p'.natAbs < lim∧q'.natAbs < lim)∧(0 < v'∧u'.natAbs < lim∧v'.natAbs < lim)) :
  Calls Tryz.prog 12 #[.agg #[.bool s0,.slice A0 n0 c0,.bool t0,.slice B0 m0 d0,.bool s1,.slice A1 n1 c1,.bool t1,.slice B1 m1 d1],.agg #[.bool s2,.slice A2 n2 c2,.bool t2,.slice B2 m2 d2,.bool s3,.slice A3 n3 c3,.bool t3,.slice B3 m3 d3]] w fun e w'=>e=.returned (.int .i64 (pcV p q u v p' q' u' v'))∧Below w.heap.size w w':=by
 have HL:=hJ hl
 clear hl
 obtain ⟨W,hW⟩:∃ W,(w.alloc (.cells #[.bool s0,.slice A0 n0 c0,.bool t0,.slice B0 m0 d0,.bool s1,.slice A1 n1 c1,.bool t1,.slice B1 m1 d1] 29)).alloc (.cells #[.bool s2,.slice A2 n2 c2,.bool t2,.slice B2 m2 d2,.bool s3,.slice A3 n3 c3,.bool t3,.slice B3 m3 d3] 29)=W:=⟨_,rfl⟩
 have HK:=hJ (show Below w.heap.size w W by rw [←hW]; exact ((Below.refl _ w).alloc (Nat.le_refl _) _).alloc (by simp) _)
 have HA:=hJ (show P8 29 W w.heap.size (.bool s0) (.slice A0 n0 c0) (.bool t0) (.slice B0 m0 d0) (.bool s1) (.slice A1 n1 c1) (.bool t1) (.slice B1 m1 d1) by rw [←hW]; exact (P8.lit w _ _ _ _ _ _ _ _ _).new ((Below.refl _ _).alloc (Nat.le_refl _) _))
 have HB:=hJ (show P8 29 W (w.heap.size+1) (.bool s2) (.slice A2 n2 c2) (.bool t2) (.slice B2 m2 d2) (.bool s3) (.slice A3 n3 c3) (.bool t3) (.slice B3 m3 d3) by
  rw [←hW]
  have h0:=P8.lit (w.alloc (.cells #[.bool s0,.slice A0 n0 c0,.bool t0,.slice B0 m0 d0,.bool s1,.slice A1 n1 c1,.bool t1,.slice B1 m1 d1] 29)) 29 (.bool s2) (.slice A2 n2 c2) (.bool t2) (.slice B2 m2 d2) (.bool s3) (.slice A3 n3 c3) (.bool t3) (.slice B3 m3 d3)
  rw [World.size_alloc] at h0
  exact h0)
 have H0:=hJ (h0.new HK.out)
 have H1:=hJ (h1.new HK.out)
 have H2:=hJ (h2.new HK.out)
 have H3:=hJ (h3.new HK.out)
 clear h0 h1 h2 h3
 obtain ⟨h,hh⟩:∃ h,w.heap.size=h:=⟨_,rfl⟩
 rw [hh] at HA HB
 go_enter Tryz.func12,Tryz.ntmps12
 go_wp2_with fail
 clear hW hh
 have HS:Hid (∀ w',Below W.heap.size W w'→(fun w':World=>w'.cell? ⟨h,0,none⟩=some (.bool s0)∧w'.cell? ⟨h,1,none⟩=some (.slice A0 n0 c0)∧w'.cell? ⟨h,2,none⟩=some (.bool t0)∧w'.cell? ⟨h,3,none⟩=some (.slice B0 m0 d0)∧w'.cell? ⟨h,4,none⟩=some (.bool s1)∧w'.cell? ⟨h,5,none⟩=some (.slice A1 n1 c1)∧w'.cell? ⟨h,6,none⟩=some (.bool t1)∧w'.cell? ⟨h,7,none⟩=some (.slice B1 m1 d1)∧w'.cell? ⟨(h+1),0,none⟩=some (.bool s2)∧w'.cell? ⟨(h+1),1,none⟩=some (.slice A2 n2 c2)∧w'.cell? ⟨(h+1),2,none⟩=some (.bool t2)∧w'.cell? ⟨(h+1),3,none⟩=some (.slice B2 m2 d2)∧w'.cell? ⟨(h+1),4,none⟩=some (.bool s3)∧w'.cell? ⟨(h+1),5,none⟩=some (.slice A3 n3 c3)∧w'.cell? ⟨(h+1),6,none⟩=some (.bool t3)∧w'.cell? ⟨(h+1),7,none⟩=some (.slice B3 m3 d3)∧Below W.heap.size W w') w'):=hJ (fun w' hb=>⟨(HA.out.new hb).cells.1.1,(HA.out.new hb).cells.1.2.1,(HA.out.new hb).cells.1.2.2.1,(HA.out.new hb).cells.1.2.2.2,(HA.out.new hb).cells.2.1,(HA.out.new hb).cells.2.2.1,(HA.out.new hb).cells.2.2.2.1,(HA.out.new hb).cells.2.2.2.2,(HB.out.new hb).cells.1.1,(HB.out.new hb).cells.1.2.1,(HB.out.new hb).cells.1.2.2.1,(HB.out.new hb).cells.1.2.2.2,(HB.out.new hb).cells.2.1,(HB.out.new hb).cells.2.2.1,(HB.out.new hb).cells.2.2.2.1,(HB.out.new hb).cells.2.2.2.2,hb⟩)
 have aJ:=hJ (Below.refl W.heap.size W)
 obtain ⟨v0,hv0⟩:=nmz (World.drew W)
 have aC:=hJ (show Below W.heap.size W v0 by rw [←hv0]; exact (Below.refl _ _).drew)
 have aF:=hJ (bt aJ.out aC.out)
 have F0_0:=hJ ((H0.out).new aC.out)
 have F1_0:=hJ ((H1.out).new aC.out)
 have F2_0:=hJ ((H2.out).new aC.out)
 have F3_0:=hJ ((H3.out).new aC.out)
 refine wp_region_held_drew (S:=(fun w':World=>w'.cell? ⟨h,0,none⟩=some (.bool s0)∧w'.cell? ⟨h,1,none⟩=some (.slice A0 n0 c0)∧w'.cell? ⟨h,2,none⟩=some (.bool t0)∧w'.cell? ⟨h,3,none⟩=some (.slice B0 m0 d0)∧w'.cell? ⟨h,4,none⟩=some (.bool s1)∧w'.cell? ⟨h,5,none⟩=some (.slice A1 n1 c1)∧w'.cell? ⟨h,6,none⟩=some (.bool t1)∧w'.cell? ⟨h,7,none⟩=some (.slice B1 m1 d1)∧w'.cell? ⟨(h+1),0,none⟩=some (.bool s2)∧w'.cell? ⟨(h+1),1,none⟩=some (.slice A2 n2 c2)∧w'.cell? ⟨(h+1),2,none⟩=some (.bool t2)∧w'.cell? ⟨(h+1),3,none⟩=some (.slice B2 m2 d2)∧w'.cell? ⟨(h+1),4,none⟩=some (.bool s3)∧w'.cell? ⟨(h+1),5,none⟩=some (.slice A3 n3 c3)∧w'.cell? ⟨(h+1),6,none⟩=some (.bool t3)∧w'.cell? ⟨(h+1),7,none⟩=some (.slice B3 m3 d3)∧Below W.heap.size W w')) (by kernel_rfl) ?_ (fun hHeld=>?_)
 ·rw [hv0]
  exact HS.out _ aF.out
 rw [hv0] at hHeld ⊢
 clear hv0 aC
 refine tq 0 ?_
 refine tq 2 ?_
 try simp only [PT]
 refine ryy [1] ?_
 refine .cons rfl (fun K hK=>?_) .nil
 go_simp
 go_at_call_of 41 (Value.agg #[.bool s0,.slice A0 n0 c0,.bool t0,.slice B0 m0 d0,.bool s1,.slice A1 n1 c1,.bool t1,.slice B1 m1 d1])
 refine (fractions_any p q u v s0 A0 n0 c0 t0 B0 m0 d0 s1 A1 n1 c1 t1 B1 m1 d1 v0 (F0_0.out) (F1_0.out)).mono ?_
 rintro e v1 ⟨s4,A4,n4,c4,t4,B4,m4,d4,s5,A5,n5,c5,t5,B5,m5,d5,rfl,hr1,hr2,hk⟩
 have F4_1:=hJ (hr1)
 have F5_1:=hJ (hr2)
 have aD:=hJ hk
 go_wp2_with fail
 have aG:=hJ (bt aF.out aD.out)
 have F0_1:=hJ ((F0_0.out).new aD.out)
 have F1_1:=hJ ((F1_0.out).new aD.out)
 have F2_1:=hJ ((F2_0.out).new aD.out)
 have F3_1:=hJ ((F3_0.out).new aD.out)
 clear hHeld
 refine hK.out _ _ (HS.out _ aG.out) (fun hHeld=>?_)
 clear hK K hk aD hr1 hr2 aF F0_0 F1_0 F2_0 F3_0
 try simp only [PT]
 refine ryy [3] ?_
 refine .cons rfl (fun K hK=>?_) .nil
 go_simp
 go_at_call_of 41 (Value.agg #[.bool s2,.slice A2 n2 c2,.bool t2,.slice B2 m2 d2,.bool s3,.slice A3 n3 c3,.bool t3,.slice B3 m3 d3])
 refine (fractions_any p' q' u' v' s2 A2 n2 c2 t2 B2 m2 d2 s3 A3 n3 c3 t3 B3 m3 d3 v1 (F2_1.out) (F3_1.out)).mono ?_
 rintro e v2 ⟨s6,A6,n6,c6,t6,B6,m6,d6,s7,A7,n7,c7,t7,B7,m7,d7,rfl,hr1,hr2,hk⟩
 have F6_2:=hJ (hr1)
 have F7_2:=hJ (hr2)
 have aB:=hJ hk
 go_wp2_with fail
 have aH:=hJ (bt aG.out aB.out)
 have F0_2:=hJ ((F0_1.out).new aB.out)
 have F1_2:=hJ ((F1_1.out).new aB.out)
 have F2_2:=hJ ((F2_1.out).new aB.out)
 have F3_2:=hJ ((F3_1.out).new aB.out)
 have F4_2:=hJ ((F4_1.out).new aB.out)
 have F5_2:=hJ ((F5_1.out).new aB.out)
 clear hHeld
 refine hK.out _ _ (HS.out _ aH.out) (fun hHeld=>?_)
 clear hK K hk aB hr1 hr2 aG F0_1 F1_1 F2_1 F3_1 F4_1 F5_1
 try simp only [PT]
 refine ryy [4] ?_
 refine .cons rfl (fun K hK=>?_) .nil
 go_simp
 go_at_call 52
 refine (porder_any p q u v p' q' u' v' s4 A4 n4 c4 t4 B4 m4 d4 s5 A5 n5 c5 t5 B5 m5 d5 s6 A6 n6 c6 t6 B6 m6 d6 s7 A7 n7 c7 t7 B7 m7 d7 v2 (F4_2.out) (F5_2.out) (F6_2.out) (F7_2.out) HL.out).mono ?_
 rintro e v3 ⟨rfl,hk⟩
 have aA:=hJ hk
 go_wp2_with fail
 have aI:=hJ (bt aH.out aA.out)
 have F0_3:=hJ ((F0_2.out).new aA.out)
 have F1_3:=hJ ((F1_2.out).new aA.out)
 have F2_3:=hJ ((F2_2.out).new aA.out)
 have F3_3:=hJ ((F3_2.out).new aA.out)
 have F4_3:=hJ ((F4_2.out).new aA.out)
 have F5_3:=hJ ((F5_2.out).new aA.out)
 have F6_3:=hJ ((F6_2.out).new aA.out)
 have F7_3:=hJ ((F7_2.out).new aA.out)
 clear hHeld
 refine hK.out _ _ (HS.out _ aI.out) (fun hHeld=>?_)
 clear hK K hk aA aH F0_2 F1_2 F2_2 F3_2 F4_2 F5_2 F6_2 F7_2
 refine tq 5 ?_
 try simp only [PT]
 refine wpAnyH_done (by kernel_rfl) ?_ _
 clear hHeld
 have aK:=hJ (bt HK.out aI.out)
 go_wp2
 go_ret
 exact ⟨rfl,aK.out⟩

end Go.Proofs.YtbgfmegepekapaaGreat


namespace Go.Proofs.YtbgfmegepekapaaGreat
open Go.RowKit
attribute [local go_sem ↓] Go.wp_at_zero Go.wp_at_succ
/-- Is p/q at most the step's limit? -/
def neB (p q:Int) (t:Int):Bool:=decide (2*p≤(2*(t - 1073741825)+1)*q)
theorem half_odd (k:Int):mkP (2*k+1) 2=2*k+1∧mkQ (2*k+1) 2=2∧mkC 2=0:=by
 have hg:Nat.gcd (2*k+1).natAbs 2=1:=by
  have h:(2*k+1).natAbs % 2=1:=by omega
  rw [Nat.gcd_comm,Nat.gcd_rec,h]
  decide
 have h:mkD (2*k+1) 2=1:=by
  unfold mkD
  rw [if_neg (by decide),show (2:Int).natAbs=2 from rfl,hg]
  rfl
 refine ⟨?_,?_,rfl⟩
 ·rw [mkP,if_neg (by decide),h,Int.ediv_one]
 ·rw [mkQ,if_neg (by decide),h]; rfl
theorem cmp_le (a b:Int):decide (a≤b)=decide (cmpI a b≤0):=by
 rcases cmpI_cases a b with ⟨h,h1⟩ | ⟨h,h1⟩ | ⟨h,h1⟩ <;> rw [h1] <;> simp <;> omega
set_option maxRecDepth 100000 in
set_option maxHeartbeats 3200000 in
theorem near1_any (p q t:Int) (s0:Bool) (A0:Option Addr) (n0 c0:Nat) (t0:Bool) (B0:Option Addr) (m0 d0:Nat) (g:Nat) (w:World) (ha:P4 27 w g (.bool s0) (.slice A0 n0 c0) (.bool t0) (.slice B0 m0 d0)) (hx:PF w s0 A0 n0 c0 t0 B0 m0 d0 p q) (hl:0 < q∧p.natAbs < lim∧q.natAbs < lim) (ht:0≤t∧t≤2147483650) :
  Calls Tryz.prog 140 #[.int .i64 t,.pointer (some ⟨g,0,none⟩)] w fun e w'=>e=.returned (.bool (neB p q t))∧Below w.heap.size w w':=by
 obtain ⟨ht1,ht2⟩:=ht
 have HA:=hJ ha
 have HX:=hJ hx
 have HL:=hJ hl
 clear ha hx hl
 obtain ⟨y,hy⟩:∃ y,t - 1073741825=y:=⟨_,rfl⟩
 have hy1 : -1073741825+t=y:=by omega
 have hw1:IntKind.i64.wrap (-1073741825+t)=y:=by rw [hy1]; exact IntWalk.i64_in _ (by omega)
 have hw2:IntKind.i64.wrap (2*y)=2*y:=IntWalk.i64_in _ (by omega)
 have hw3:IntKind.i64.wrap (2*y+1)=2*y+1:=IntWalk.i64_in _ (by omega)
 have HW:=hJ (show (Lit.int .i64 (2*y+1)).wf=true from WalkArith.wf_i64 (by omega))
 have aD:=hJ (show neB p q t=decide (cmpI (p*2) ((2*y+1)*q)≤0) by rw [←cmp_le]; unfold neB; rw [hy,Int.mul_comm 2 p])
 clear hy hy1
 go_enter Tryz.func140,Tryz.ntmps140
 go_wp2_with fail
 refine (fof_any (2*y+1) 2 w HW.out (by decide)).mono ?_
 rw [(half_odd y).1,(half_odd y).2.1,(half_odd y).2.2]
 rintro e w1 ⟨s1,A1,n1,c1,t1,B1,m1,d1,rfl,hr1,hb1⟩
 obtain ⟨x1,aB⟩:=nmz (w1.alloc (.cells #[.bool s1,.slice A1 n1 c1,.bool t1,.slice B1 m1 d1] 27))
 have aC:=hJ (show Below w1.heap.size w1 x1 by rw [←aB]; exact (Below.refl _ _).alloc (Nat.le_refl _) _)
 have aF:=hJ (show P4 27 x1 w1.heap.size (.bool s1) (.slice A1 n1 c1) (.bool t1) (.slice B1 m1 d1) by rw [←aB]; exact P4.lit _ _ _ _ _ _)
 have aG:=hJ (hr1.new aC.out)
 have aA:=hJ (bt hb1 aC.out)
 have aH:=hJ (HA.out.new aA.out)
 have aI:=hJ (HX.out.new aA.out)
 clear hr1 hb1
 obtain ⟨a0,a1,a2,a3⟩:=aH.out.cells
 obtain ⟨q0,q1,q2,q3⟩:=aF.out.cells
 go_wp2_with fail
 refine (fcompare_any p q (2*y+1) 2 s0 t0 s1 t1 A0 B0 A1 B1 n0 c0 m0 d0 n1 c1 m1 d1 x1 aI.out aG.out HL.out.1 (by decide) HL.out.2.1 HL.out.2.2 (i64_lim HW.out) (i64_lim (by decide))).mono ?_
 rcases cmpI_cases (p*2) ((2*y+1)*q) with ⟨_,hc⟩ | ⟨_,hc⟩ | ⟨_,hc⟩
 all_goals
  have HV:=hJ (show neB p q t=decide (cmpI (p*2) ((2*y+1)*q)≤0) from aD.out)
  rw [hc] at HV ⊢
  rintro e w2 ⟨rfl,hb2⟩
  have aJ:=hJ (bt aA.out hb2)
  clear hb2 hc
  go_wp2
  go_ret
  exact ⟨by rw [HV.out]; rfl,aJ.out⟩
set_option maxRecDepth 100000 in
set_option maxHeartbeats 3200000 in
theorem search_any (p q:Int) (s0:Bool) (A0:Option Addr) (n0 c0:Nat) (t0:Bool) (B0:Option Addr) (m0 d0:Nat) (g:Nat) (w:World) (ha:P4 27 w g (.bool s0) (.slice A0 n0 c0) (.bool t0) (.slice B0 m0 d0)) (hx:PF w s0 A0 n0 c0 t0 B0 m0 d0 p q) (hl:0 < q∧p.natAbs < lim∧q.natAbs < lim) :
  Calls Tryz.prog 139 #[.int .i64 2147483650,.func (.func 140) #[] #[.pointer (some ⟨g,0,none⟩)]] w fun e w'=>(∃ k:Int,e=.returned (.int .i64 k)∧(0≤k∧k≤2147483650)∧(k=0∨neB p q (k - 1)=false)∧(k=2147483650∨neB p q k=true))∧Below w.heap.size w w':=by
 have HA:=hJ ha
 have HX:=hJ hx
 have HL:=hJ hl
 clear ha hx hl
 go_enter Tryz.func139,Tryz.ntmps139
 go_wp2_with fail
 go_loopw [5,6] (fun s5 s6 wr=>∃ (i j:Int),s5=.int .i64 i∧s6=.int .i64 j∧(0≤i∧i≤j∧j≤2147483650)∧Hid ((i=0∨neB p q (i - 1)=false)∧(j=2147483650∨neB p q j=true))∧Below w.heap.size w wr) (fun s5 s6 _=>(intOf s6 - intOf s5).toNat)
 case atStart=>exact ⟨0,2147483650,rfl,rfl,⟨by omega,by omega,by omega⟩,hJ ⟨.inl rfl,.inl rfl⟩,Below.refl _ _⟩
 case round =>
  obtain ⟨i,j,rfl,rfl,⟨h1,h2,h3⟩,hh,hb⟩:=hrel
  have HB:=hJ hb
  clear hb
  by_cases hlt:i < j
  ·obtain ⟨m,hm⟩:∃ m,(i+j) / 2=m:=⟨_,rfl⟩
   have hw1:IntKind.i64.wrap (i+j)=i+j:=IntWalk.i64_in _ (by omega)
   have hw2:IntKind.u64.wrap (i+j)=i+j:=by rw [IntKind.wrap_u64]; omega
   have hm1:i≤m∧m < j:=by omega
   have hw3:IntKind.i64.wrap m=m:=IntWalk.i64_in _ (by omega)
   have hw4:IntKind.i64.wrap (m+1)=m+1:=IntWalk.i64_in _ (by omega)
   go_wp2_with fail
   refine (near1_any p q m s0 A0 n0 c0 t0 B0 m0 d0 g wr (HA.out.new HB.out) (HX.out.new HB.out) HL.out (by omega)).mono ?_
   obtain ⟨b,hbv⟩:∃ b,neB p q m=b:=⟨_,rfl⟩
   have HV:=hJ hbv
   rw [hbv]
   clear hbv
   rintro e w2 ⟨rfl,hb2⟩
   have aA:=hJ (bt HB.out hb2)
   clear hb2
   obtain ⟨hm2,hm3⟩:=hm1
   cases b with
   | true =>
    go_wp2
    go_roundw
    case rel=>exact ⟨i,m,rfl,by first | rfl | rw [hm],⟨h1,by omega,by omega⟩,hJ ⟨hh.out.1,.inr HV.out⟩,aA.out⟩
    case measure=>simp [intOf]; omega
   | false =>
    go_wp2
    go_roundw
    case rel=>exact ⟨m+1,j,by first | rfl | rw [hm],rfl,⟨by omega,by omega,h3⟩,hJ ⟨.inr (by rw [show m+1 - 1=m by omega]; exact HV.out),hh.out.2⟩,aA.out⟩
    case measure=>simp [intOf]; omega
  ·have he:i=j:=by omega
   go_wp2
   go_ret
   exact ⟨⟨j,rfl,⟨by omega,by omega⟩,by first | exact hh.out.1 | (rw [←he]; exact hh.out.1),hh.out.2⟩,HB.out⟩
end Go.Proofs.YtbgfmegepekapaaGreat


namespace Go.Proofs.YtbgfmegepekapaaGreat
open Go.RowKit
attribute [local go_sem ↓] Go.wp_at_zero Go.wp_at_succ
/-- The nearest integer, the lesser one of two, within the limits. -/
def neV (p q:Int):Int:=max (-1073741825) (min 1073741825 (-((q - 2*p) / (2*q))))
def zC (_ _:Int):Int:=0
theorem ne_iff {p q n:Int} (hq:0 < q):2*p≤(2*n+1)*q ↔ -((q - 2*p) / (2*q))≤n:=by
 have h1:(-n≤(q - 2*p) / (2*q)) ↔ -n*(2*q)≤q - 2*p:=Int.le_ediv_iff_mul_le (by omega)
 have h2 : -n*(2*q) = -(2*(n*q)):=by rw [Int.neg_mul,Int.mul_left_comm]
 have h3:(2*n+1)*q=2*(n*q)+q:=by rw [Int.add_mul,Int.one_mul,Int.mul_assoc]
 rw [h3]
 rw [h2] at h1
 constructor
 ·intro h
  have:=h1.2 (by omega)
  omega
 ·intro h
  have:=h1.1 (by omega)
  omega
theorem ne_of {p q k:Int} (hq:0 < q) (h:(0≤k∧k≤2147483650)∧(k=0∨neB p q (k - 1)=false)∧(k=2147483650∨neB p q k=true)):k - 1073741825=neV p q:=by
 obtain ⟨⟨h0,h1⟩,h2,h3⟩:=h
 have e1:neB p q (k - 1)=false→¬ -((q - 2*p) / (2*q))≤k - 1 - 1073741825:=fun h=>by
  rw [←ne_iff hq]
  exact of_decide_eq_false h
 have e2:neB p q k=true → -((q - 2*p) / (2*q))≤k - 1073741825:=fun h=>by
  rw [←ne_iff hq]
  exact of_decide_eq_true h
 unfold neV
 generalize -((q - 2*p) / (2*q))=c at *
 rcases h2 with h2 | h2 <;> rcases h3 with h3 | h3
 ·omega
 ·have:=e2 h3; omega
 ·have:=e1 h2; omega
 ·have:=e1 h2; have:=e2 h3; omega
set_option maxRecDepth 100000 in
set_option maxHeartbeats 3200000 in
theorem nearest_any (p q:Int) (s0:Bool) (A0:Option Addr) (n0 c0:Nat) (t0:Bool) (B0:Option Addr) (m0 d0:Nat) (w:World) (hx:PF w s0 A0 n0 c0 t0 B0 m0 d0 p q) (hq:0 < q) (hlp:p.natAbs < lim) (hlq:q.natAbs < lim) :
  Calls Tryz.prog 103 #[.agg #[.bool s0,.slice A0 n0 c0,.bool t0,.slice B0 m0 d0]] w fun e w'=>e=.returned (.tuple #[.int .i64 (neV p q),.int .i64 (zC p q)])∧Below w.heap.size w w':=by
 obtain ⟨W,hW⟩:∃ W,w.alloc (.cells #[.bool s0,.slice A0 n0 c0,.bool t0,.slice B0 m0 d0] 27)=W:=⟨_,rfl⟩
 have HK:=hJ (show Below w.heap.size w W by rw [←hW]; exact (Below.refl _ w).alloc (Nat.le_refl _) _)
 have HA:=hJ (show P4 27 W w.heap.size (.bool s0) (.slice A0 n0 c0) (.bool t0) (.slice B0 m0 d0) by rw [←hW]; exact P4.lit _ _ _ _ _ _)
 have HX:=hJ (hx.new HK.out)
 have HL:=hJ (And.intro hq (And.intro hlp hlq))
 clear hx hq hlp hlq
 go_enter Tryz.func103,Tryz.ntmps103
 go_wp2_with fail
 refine (search_any p q s0 A0 n0 c0 t0 B0 m0 d0 w.heap.size W HA.out HX.out HL.out).mono ?_
 rintro e w1 ⟨⟨k,rfl,h1,h2,h3⟩,hb1⟩
 have aA:=hJ (bt HK.out hb1)
 have HV:=hJ (ne_of HL.out.1 ⟨h1,h2,h3⟩)
 obtain ⟨h1a,h1b⟩:=h1
 clear hb1 h2 h3
 obtain ⟨y,hy⟩:∃ y,k - 1073741825=y:=⟨_,rfl⟩
 rw [hy] at HV
 have hy1 : -1073741825+k=y:=by omega
 have hw1:IntKind.i64.wrap (-1073741825+k)=y:=by rw [hy1]; exact IntWalk.i64_in _ (by omega)
 clear hy hy1
 go_wp2
 go_ret2
 exact ⟨by rw [←HV.out]; first | rfl | (simp [hw1,zC]),aA.out⟩
set_option maxRecDepth 100000 in
set_option maxHeartbeats 3200000 in
theorem eachnear_any (p q u v:Int) (s0:Bool) (A0:Option Addr) (n0 c0:Nat) (t0:Bool) (B0:Option Addr) (m0 d0:Nat) (s1:Bool) (A1:Option Addr) (n1 c1:Nat) (t1:Bool) (B1:Option Addr) (m1 d1:Nat) (w:World) (h0:PF w s0 A0 n0 c0 t0 B0 m0 d0 p q) (h1:PF w s1 A1 n1 c1 t1 B1 m1 d1 u v) (hl:(0 < q∧p.natAbs < lim∧q.natAbs < lim)∧(0 < v∧u.natAbs < lim∧v.natAbs < lim)) :
  Calls Tryz.prog 102 #[.agg #[.bool s0,.slice A0 n0 c0,.bool t0,.slice B0 m0 d0,.bool s1,.slice A1 n1 c1,.bool t1,.slice B1 m1 d1],.func (.func 103) #[] #[]] w fun e w'=>e=.returned (.tuple #[.agg #[.int .i64 (eiA neV zC p q u v),.int .i64 (eiB neV zC p q u v)],.int .i64 (eiC zC p q u v)])∧Below w.heap.size w w':=by
 have HL:=hJ hl
 clear hl
 obtain ⟨RA,hRA⟩:∃ x,eiA neV zC p q u v=x:=⟨_,rfl⟩
 obtain ⟨RB,hRB⟩:∃ x,eiB neV zC p q u v=x:=⟨_,rfl⟩
 obtain ⟨RC,hRC⟩:∃ x,eiC zC p q u v=x:=⟨_,rfl⟩
 have aF:=hJ (And.intro hRA (And.intro hRB hRC))
 rw [hRA,hRB,hRC]
 clear hRA hRB hRC
 obtain ⟨W,hW⟩:∃ W,((w.alloc (.cells #[.bool s0,.slice A0 n0 c0,.bool t0,.slice B0 m0 d0,.bool s1,.slice A1 n1 c1,.bool t1,.slice B1 m1 d1] 82)).alloc (.cells #[.int .i64 0,.int .i64 0] 131)).alloc (.cells #[.int .i64 0,.int .i64 0] 131)=W:=⟨_,rfl⟩
 have HK:=hJ (show Below w.heap.size w W by rw [←hW]; exact (((Below.refl _ w).alloc (Nat.le_refl _) _).alloc (by simp) _).alloc (by simp; omega) _)
 have HA:=hJ (show P8 82 W w.heap.size (.bool s0) (.slice A0 n0 c0) (.bool t0) (.slice B0 m0 d0) (.bool s1) (.slice A1 n1 c1) (.bool t1) (.slice B1 m1 d1) by rw [←hW]; exact ((P8.lit w _ _ _ _ _ _ _ _ _).new ((Below.refl _ _).alloc (Nat.le_refl _) _)).new ((Below.refl _ _).alloc (Nat.le_refl _) _))
 have HZ:=hJ (show P2 131 W (w.heap.size+1) (.int .i64 0) (.int .i64 0) by
  rw [←hW]
  have h0:=P2.lit (w.alloc (.cells #[.bool s0,.slice A0 n0 c0,.bool t0,.slice B0 m0 d0,.bool s1,.slice A1 n1 c1,.bool t1,.slice B1 m1 d1] 82)) 131 (.int .i64 0) (.int .i64 0)
  rw [World.size_alloc] at h0
  exact h0.alloc _)
 have HR:=hJ (show P2 131 W (w.heap.size+1+1) (.int .i64 0) (.int .i64 0) by
  rw [←hW]
  have h0:=P2.lit ((w.alloc (.cells #[.bool s0,.slice A0 n0 c0,.bool t0,.slice B0 m0 d0,.bool s1,.slice A1 n1 c1,.bool t1,.slice B1 m1 d1] 82)).alloc (.cells #[.int .i64 0,.int .i64 0] 131)) 131 (.int .i64 0) (.int .i64 0)
  rw [World.size_alloc,World.size_alloc] at h0
  exact h0)
 have H0:=hJ (h0.new HK.out)
 have H1:=hJ (h1.new HK.out)
 clear h0 h1
 obtain ⟨h,hh⟩:∃ h,w.heap.size=h:=⟨_,rfl⟩
 have HH:=hJ hh
 rw [hh] at HA HZ HR
 obtain ⟨⟨p0,p1,p2,p3⟩,p4,p5,p6,p7⟩:=HA.out.cells
 go_enter Tryz.func102,Tryz.ntmps102
 go_wp2_with fail
 clear hW hh p0 p1 p2 p3 p4 p5 p6 p7 HA
 go_loopw [11] (fun tv wr=>∃ (i:Nat) (a b:Int),i≤2∧tv=.int .i64 (i:Int)∧P2 131 wr (h+1) (.int .i64 0) (.int .i64 0)∧P2 131 wr (h+1+1) (.int .i64 a) (.int .i64 b)∧PF wr s0 A0 n0 c0 t0 B0 m0 d0 p q∧PF wr s1 A1 n1 c1 t1 B1 m1 d1 u v∧Hid ((0 < i→zC p q=0∧a=neV p q)∧(1 < i→zC u v=0∧b=neV u v))∧Below w.heap.size w wr) (fun tv _=>2 - (intOf tv).toNat)
 case atStart=>exact ⟨0,0,0,by omega,rfl,HZ.out,HR.out,H0.out,H1.out,hJ ⟨fun h=>by omega,fun h=>by omega⟩,HK.out⟩
 case round =>
  clear HZ HR HK H0 H1
  obtain ⟨i,a,b,hi,rfl,hz,hr,h0,h1,hle,hbel⟩:=hrel
  have HZ:=hJ hz
  have HR:=hJ hr
  have H0:=hJ h0
  have H1:=hJ h1
  have aH:=hJ hbel
  clear hz hr h0 h1 hbel
  have hi3:i=0∨i=1∨i=2:=by omega
  rcases hi3 with rfl | rfl | rfl
  ·have hix:=fun wx=>jx0 (x0:=.bool s0) (x1:=.slice A0 n0 c0) (x2:=.bool t0) (x3:=.slice B0 m0 d0) (y0:=.bool s1) (y1:=.slice A1 n1 c1) (y2:=.bool t1) (y3:=.slice B1 m1 d1) wx
   obtain ⟨X,hX⟩:∃ X,wr.alloc (.cells #[.bool s0,.slice A0 n0 c0,.bool t0,.slice B0 m0 d0] 27)=X:=⟨_,rfl⟩
   have aG:=hJ (show Below wr.heap.size wr X by rw [←hX]; exact (Below.refl _ _).alloc (Nat.le_refl _) _)
   have aI:=hJ (show P4 27 X wr.heap.size (.bool s0) (.slice A0 n0 c0) (.bool t0) (.slice B0 m0 d0) by rw [←hX]; exact P4.lit _ _ _ _ _ _)
   obtain ⟨q0,q1,q2,q3⟩:=aI.out.cells
   go_wp2_with fail
   clear hix hX
   refine (nearest_any p q s0 A0 n0 c0 t0 B0 m0 d0 X (H0.out.new aG.out) HL.out.1.1 HL.out.1.2.1 HL.out.1.2.2).mono ?_
   rintro e w2 ⟨rfl,hb2⟩
   have aA:=hJ (bt aG.out hb2)
   have aJ:=hJ (HZ.out.new aA.out)
   have aB:=hJ (HR.out.new aA.out)
   have H02:=hJ (H0.out.new aA.out)
   have H12:=hJ (H1.out.new aA.out)
   have aK:=hJ (bt aH.out aA.out)
   clear hb2 q0 q1 q2 q3
   obtain ⟨r0,r1⟩:=aB.out.cells
   have f0:=aB.out.frozen 0
   obtain ⟨val,hval⟩:∃ k,neV p q=k:=⟨_,rfl⟩
   obtain ⟨code,hcode⟩:∃ k,zC p q=k:=⟨_,rfl⟩
   have aD:=hJ (And.intro hval hcode)
   rw [hval,hcode]
   clear hval hcode
   obtain ⟨U,hU⟩:∃ U,w2.setCell ⟨h+1+1,0,none⟩ (.int .i64 val)=U:=⟨_,rfl⟩
   have hno:NoW w2 (h+1+1):=noW_of aB.out rfl
   have hkp:Kp (· = h+1+1) w2 U:=by rw [←hU]; exact (Kp.refl (· = h+1+1) w2).setCell (p:=⟨h+1+1,0,none⟩) (fun _=>rfl) _
   have aM:=hJ (show P2 131 U (h+1+1) (.int .i64 val) (.int .i64 b) by rw [←hU]; exact aB.out.lo1 _)
   have aC:=hJ (show P2 131 U (h+1) (.int .i64 0) (.int .i64 0) by rw [←hU]; exact aJ.out.far (p:=⟨h+1+1,0,none⟩) (by simp) _)
   have H03:=hJ (PF.apart H02.out hkp hno)
   have H13:=hJ (PF.apart H12.out hkp hno)
   have aL:=hJ (show Below w.heap.size w U by rw [←hU]; exact aK.out.setCell (p:=⟨h+1+1,0,none⟩) (by simp [HH.out]; omega) _)
   clear hno hkp aJ aB H02 H12 aK aA aI aG HZ HR H0 H1 aH
   by_cases hc:code=0
   ·subst hc
    go_wp2
    go_roundw
    case rel=>exact ⟨1,val,b,by omega,by go_num,aC.out,aM.out,H03.out,H13.out,hJ ⟨fun _=>⟨aD.out.2,aD.out.1.symm⟩,fun _=>by omega⟩,aL.out⟩
    case measure=>simp [intOf]
   have HN:=hJ hc
   have hcb:(code == 0)=false:=by simp [hc]
   have HE:=hJ (show RA=0∧RB=0∧RC=code by
    have hne:¬ (zC p q=0∧zC u v=0):=fun h=>HN.out (by rw [←aD.out.2]; exact h.1)
    refine ⟨by rw [←aF.out.1]; exact if_neg hne,by rw [←aF.out.2.1]; exact if_neg hne,?_⟩
    rw [←aF.out.2.2]
    rw [eiC,if_neg (by rw [aD.out.2]; exact HN.out),aD.out.2])
   clear hc
   obtain ⟨z0,z1⟩:=aC.out.cells
   have g0:=aC.out.frozen 0
   have g1:=aC.out.frozen 1
   go_wp2
   exact bodyPost_ret (results_cell1 rfl _ _ _ _ _ _ _ rfl (aC.out.all (.int .i64 0) (.int .i64 0)) Tryz.underlying131 rfl A2_size) rfl ⟨by rw [HE.out.1,HE.out.2.1,HE.out.2.2]; rfl,below_box aL.out (by rw [HH.out]; omega) _ _⟩
  ·have hix:=fun wx=>jx1 (x0:=.bool s0) (x1:=.slice A0 n0 c0) (x2:=.bool t0) (x3:=.slice B0 m0 d0) (y0:=.bool s1) (y1:=.slice A1 n1 c1) (y2:=.bool t1) (y3:=.slice B1 m1 d1) wx
   obtain ⟨X,hX⟩:∃ X,wr.alloc (.cells #[.bool s1,.slice A1 n1 c1,.bool t1,.slice B1 m1 d1] 27)=X:=⟨_,rfl⟩
   have aG:=hJ (show Below wr.heap.size wr X by rw [←hX]; exact (Below.refl _ _).alloc (Nat.le_refl _) _)
   have aI:=hJ (show P4 27 X wr.heap.size (.bool s1) (.slice A1 n1 c1) (.bool t1) (.slice B1 m1 d1) by rw [←hX]; exact P4.lit _ _ _ _ _ _)
   obtain ⟨q0,q1,q2,q3⟩:=aI.out.cells
   go_wp2_with fail
   clear hix hX
   refine (nearest_any u v s1 A1 n1 c1 t1 B1 m1 d1 X (H1.out.new aG.out) HL.out.2.1 HL.out.2.2.1 HL.out.2.2.2).mono ?_
   rintro e w2 ⟨rfl,hb2⟩
   have aA:=hJ (bt aG.out hb2)
   have aJ:=hJ (HZ.out.new aA.out)
   have aB:=hJ (HR.out.new aA.out)
   have H02:=hJ (H0.out.new aA.out)
   have H12:=hJ (H1.out.new aA.out)
   have aK:=hJ (bt aH.out aA.out)
   clear hb2 q0 q1 q2 q3
   obtain ⟨r0,r1⟩:=aB.out.cells
   have f0:=aB.out.frozen 1
   obtain ⟨val,hval⟩:∃ k,neV u v=k:=⟨_,rfl⟩
   obtain ⟨code,hcode⟩:∃ k,zC u v=k:=⟨_,rfl⟩
   have aD:=hJ (And.intro hval hcode)
   rw [hval,hcode]
   clear hval hcode
   obtain ⟨U,hU⟩:∃ U,w2.setCell ⟨h+1+1,1,none⟩ (.int .i64 val)=U:=⟨_,rfl⟩
   have hno:NoW w2 (h+1+1):=noW_of aB.out rfl
   have hkp:Kp (· = h+1+1) w2 U:=by rw [←hU]; exact (Kp.refl (· = h+1+1) w2).setCell (p:=⟨h+1+1,1,none⟩) (fun _=>rfl) _
   have aM:=hJ (show P2 131 U (h+1+1) (.int .i64 a) (.int .i64 val) by rw [←hU]; exact aB.out.hi1 _)
   have aC:=hJ (show P2 131 U (h+1) (.int .i64 0) (.int .i64 0) by rw [←hU]; exact aJ.out.far (p:=⟨h+1+1,1,none⟩) (by simp) _)
   have H03:=hJ (PF.apart H02.out hkp hno)
   have H13:=hJ (PF.apart H12.out hkp hno)
   have aL:=hJ (show Below w.heap.size w U by rw [←hU]; exact aK.out.setCell (p:=⟨h+1+1,1,none⟩) (by simp [HH.out]; omega) _)
   clear hno hkp aJ aB H02 H12 aK aA aI aG HZ HR H0 H1 aH
   by_cases hc:code=0
   ·subst hc
    go_wp2
    go_roundw
    case rel=>exact ⟨2,a,val,by omega,by go_num,aC.out,aM.out,H03.out,H13.out,hJ ⟨fun _=>hle.out.1 (by omega),fun _=>⟨aD.out.2,aD.out.1.symm⟩⟩,aL.out⟩
    case measure=>simp [intOf]
   have HN:=hJ hc
   have hcb:(code == 0)=false:=by simp [hc]
   have HE:=hJ (show RA=0∧RB=0∧RC=code by
    have hne:¬ (zC p q=0∧zC u v=0):=fun h=>HN.out (by rw [←aD.out.2]; exact h.2)
    refine ⟨by rw [←aF.out.1]; exact if_neg hne,by rw [←aF.out.2.1]; exact if_neg hne,?_⟩
    rw [←aF.out.2.2]
    rw [eiC,if_pos (hle.out.1 (by omega)).1,aD.out.2])
   clear hc
   obtain ⟨z0,z1⟩:=aC.out.cells
   have g0:=aC.out.frozen 0
   have g1:=aC.out.frozen 1
   go_wp2
   exact bodyPost_ret (results_cell1 rfl _ _ _ _ _ _ _ rfl (aC.out.all (.int .i64 0) (.int .i64 0)) Tryz.underlying131 rfl A2_size) rfl ⟨by rw [HE.out.1,HE.out.2.1,HE.out.2.2]; rfl,below_box aL.out (by rw [HH.out]; omega) _ _⟩
  ·have HE:=hJ (show RA=a∧RB=b∧RC=0 by
    have h1:=hle.out.1 (by omega)
    have h2:=hle.out.2 (by omega)
    refine ⟨?_,?_,?_⟩
    ·rw [←aF.out.1,eiA,if_pos ⟨h1.1,h2.1⟩]; exact h1.2.symm
    ·rw [←aF.out.2.1,eiB,if_pos ⟨h1.1,h2.1⟩]; exact h2.2.symm
    rw [←aF.out.2.2,eiC,if_pos h1.1,h2.1])
   obtain ⟨r0,r1⟩:=HR.out.cells
   obtain ⟨z0,z1⟩:=HZ.out.cells
   have g0:=HZ.out.frozen 0
   have g1:=HZ.out.frozen 1
   go_wp2
   exact bodyPost_ret (results_cell1 rfl _ _ _ _ _ _ _ rfl (HZ.out.all (.int .i64 a) (.int .i64 b)) Tryz.underlying131 rfl A2_size) rfl ⟨by rw [HE.out.1,HE.out.2.1,HE.out.2.2]; rfl,below_box aH.out (by rw [HH.out]; omega) _ _⟩
/-- What Round returns. -/
def rdA (p q u v:Int):Int:=eiA neV zC p q u v
def rdB (p q u v:Int):Int:=eiB neV zC p q u v
def rdE (p q u v:Int):Int:=ogC (rdA p q u v) (rdB p q u v) (eiC zC p q u v)
def rdX (p q u v:Int):Int:=ogV (rdA p q u v) (rdB p q u v) (eiC zC p q u v) (rdA p q u v)
def rdY (p q u v:Int):Int:=ogV (rdA p q u v) (rdB p q u v) (eiC zC p q u v) (rdB p q u v)
set_option maxRecDepth 100000 in
set_option maxHeartbeats 3200000 in
theorem pround_any (p q u v:Int) (s0:Bool) (A0:Option Addr) (n0 c0:Nat) (t0:Bool) (B0:Option Addr) (m0 d0:Nat) (s1:Bool) (A1:Option Addr) (n1 c1:Nat) (t1:Bool) (B1:Option Addr) (m1 d1:Nat) (w:World) (h0:PF w s0 A0 n0 c0 t0 B0 m0 d0 p q) (h1:PF w s1 A1 n1 c1 t1 B1 m1 d1 u v) (hl:(0 < q∧p.natAbs < lim∧q.natAbs < lim)∧(0 < v∧u.natAbs < lim∧v.natAbs < lim)) :
  Calls Tryz.prog 55 #[.agg #[.bool s0,.slice A0 n0 c0,.bool t0,.slice B0 m0 d0,.bool s1,.slice A1 n1 c1,.bool t1,.slice B1 m1 d1]] w fun e w'=>e=.returned (.tuple #[.agg #[.int .i64 (rdX p q u v),.int .i64 (rdY p q u v)],.int .i64 (rdE p q u v)])∧Below w.heap.size w w':=by
 have HL:=hJ hl
 clear hl
 obtain ⟨W,hW⟩:∃ W,(w.alloc (.cells #[.bool s0,.slice A0 n0 c0,.bool t0,.slice B0 m0 d0,.bool s1,.slice A1 n1 c1,.bool t1,.slice B1 m1 d1] 29)).alloc (.cells #[.int .i64 0,.int .i64 0] 71)=W:=⟨_,rfl⟩
 have HK:=hJ (show Below w.heap.size w W by rw [←hW]; exact ((Below.refl _ w).alloc (Nat.le_refl _) _).alloc (by simp) _)
 have HA:=hJ (show P8 29 W w.heap.size (.bool s0) (.slice A0 n0 c0) (.bool t0) (.slice B0 m0 d0) (.bool s1) (.slice A1 n1 c1) (.bool t1) (.slice B1 m1 d1) by rw [←hW]; exact (P8.lit w _ _ _ _ _ _ _ _ _).new ((Below.refl _ _).alloc (Nat.le_refl _) _))
 have HZ:=hJ (show P2 71 W (w.heap.size+1) (.int .i64 0) (.int .i64 0) by
  rw [←hW]
  have h0:=P2.lit (w.alloc (.cells #[.bool s0,.slice A0 n0 c0,.bool t0,.slice B0 m0 d0,.bool s1,.slice A1 n1 c1,.bool t1,.slice B1 m1 d1] 29)) 71 (.int .i64 0) (.int .i64 0)
  rw [World.size_alloc] at h0
  exact h0)
 have H0:=hJ (h0.new HK.out)
 have H1:=hJ (h1.new HK.out)
 clear h0 h1
 obtain ⟨h,hh⟩:∃ h,w.heap.size=h:=⟨_,rfl⟩
 have HH:=hJ hh
 rw [hh] at HA HZ
 obtain ⟨⟨p0,p1,p2,p3⟩,p4,p5,p6,p7⟩:=HA.out.cells
 go_enter Tryz.func55,Tryz.ntmps55
 go_wp2_with fail
 clear hW hh
 refine (fractions_any p q u v s0 A0 n0 c0 t0 B0 m0 d0 s1 A1 n1 c1 t1 B1 m1 d1 W H0.out H1.out).mono ?_
 clear H0 H1
 rintro e w1 ⟨s2,A2,n2,c2,t2,B2,m2,d2,s3,A3,n3,c3,t3,B3,m3,d3,rfl,h0,h1,hb1⟩
 have H0:=hJ h0
 have H1:=hJ h1
 have aC:=hJ (bt HK.out hb1)
 have aD:=hJ (HZ.out.new hb1)
 clear h0 h1 hb1 p0 p1 p2 p3 p4 p5 p6 p7
 go_wp2_with fail
 refine (eachnear_any p q u v s2 A2 n2 c2 t2 B2 m2 d2 s3 A3 n3 c3 t3 B3 m3 d3 w1 H0.out H1.out HL.out).mono ?_
 obtain ⟨a,ha⟩:∃ k,eiA neV zC p q u v=k:=⟨_,rfl⟩
 obtain ⟨b,hb⟩:∃ k,eiB neV zC p q u v=k:=⟨_,rfl⟩
 obtain ⟨k,hk⟩:∃ k,eiC zC p q u v=k:=⟨_,rfl⟩
 have aB:=hJ (And.intro ha (And.intro hb hk))
 rw [ha,hb,hk]
 clear ha hb hk
 rintro e w2 ⟨rfl,hb2⟩
 have aF:=hJ (bt aC.out hb2)
 have aG:=hJ (aD.out.new hb2)
 clear hb2
 go_wp2_with fail
 refine (ongrid_any a b k w2).mono ?_
 obtain ⟨x,hx⟩:=nmz (ogV a b k a)
 obtain ⟨y,hy⟩:=nmz (ogV a b k b)
 obtain ⟨c,hc⟩:=nmz (ogC a b k)
 have HV:=hJ (show rdX p q u v=x∧rdY p q u v=y∧rdE p q u v=c by
  unfold rdX rdY rdE rdA rdB
  rw [aB.out.1,aB.out.2.1,aB.out.2.2]
  exact ⟨hx,hy,hc⟩)
 rw [hx,hy,hc]
 clear hx hy hc
 rintro e w3 ⟨rfl,hb3⟩
 have aH:=hJ (bt aF.out hb3)
 have aA:=hJ (aG.out.new hb3)
 clear hb3
 obtain ⟨z0,z1⟩:=aA.out.cells
 have g0:=aA.out.frozen 0
 have g1:=aA.out.frozen 1
 go_wp2
 exact bodyPost_ret (results_cell1 rfl _ _ _ _ _ _ _ rfl (aA.out.all (.int .i64 x) (.int .i64 y)) Tryz.underlying71 rfl G2_size) rfl ⟨by rw [HV.out.1,HV.out.2.1,HV.out.2.2]; rfl,below_box aH.out (by rw [HH.out]; omega) _ _⟩
end Go.Proofs.YtbgfmegepekapaaGreat


namespace Go.Proofs.YtbgfmegepekapaaGreat
open Go.RowKit
attribute [local go_sem ↓] Go.wp_at_zero Go.wp_at_succ
def mdP (p q r s:Int):Int:=if adC p q r s=0 then dvP (adP p q r s) (adQ p q r s) 2 1 else 0
def mdQ (p q r s:Int):Int:=if adC p q r s=0 then dvQ (adP p q r s) (adQ p q r s) 2 1 else 1
theorem adQ_pos {p q r s:Int} (hq:0 < q) (hs:0 < s):0 < adQ p q r s:=by
 unfold adQ
 split
 ·have h1:0 < adG q s:=by
   have:=Nat.gcd_pos_of_pos_left s.natAbs (show 0 < q.natAbs by omega)
   unfold adG; omega
  have h2:adG q s≤s:=by
   have:=Nat.gcd_le_right q.natAbs (show 0 < s.natAbs by omega)
   unfold adG; omega
  have h3:0 < q / adG q s:=by
   obtain ⟨k,hk⟩:=Nat.gcd_dvd_left q.natAbs s.natAbs
   have hq2:q=adG q s*(k:Int):=by
    unfold adG
    have h3:q=(q.natAbs:Int):=by omega
    conv=>lhs; rw [h3,hk,Int.natCast_mul]
   have hk0:(k:Int)≠0:=fun e=>by rw [e,Int.mul_zero] at hq2; omega
   have:q / adG q s=(k:Int):=by
    conv=>lhs; lhs; rw [hq2]
    exact Int.mul_ediv_cancel_left _ (by omega)
   omega
  have h4:s≤adD q s:=by
   unfold adD
   have:=Int.mul_le_mul_of_nonneg_right (show (1:Int)≤q / adG q s by omega) (show 0≤s by omega)
   omega
  have h5:0 < adH p q r s∧adH p q r s≤adG q s:=by
   have e0:0 < (adG q s).natAbs:=by omega
   have e1:=Nat.gcd_pos_of_pos_right (adN p q r s).natAbs e0
   have e2:=Nat.gcd_le_right (adN p q r s).natAbs e0
   unfold adH
   omega
  have h6:1≤adD q s / adH p q r s:=(Int.le_ediv_iff_mul_le h5.1).2 (by omega)
  omega
 ·decide
theorem ad_lims {p q r s:Int}:(adP p q r s).natAbs < lim∧(adQ p q r s).natAbs < lim:=by
 unfold adP adQ
 by_cases h:adK p q r s
 ·rw [if_pos h,if_pos h]
  exact ⟨ed_lim h.2.2.1,ed_lim h.2.2.2⟩
 ·rw [if_neg h,if_neg h]
  exact ⟨by have:=one_lim; simp at this ⊢; omega,one_lim⟩
set_option maxRecDepth 100000 in
set_option maxHeartbeats 3200000 in
theorem mid1_any (p q r s:Int) (s0:Bool) (A0:Option Addr) (n0 c0:Nat) (t0:Bool) (B0:Option Addr) (m0 d0:Nat) (s1:Bool) (A1:Option Addr) (n1 c1:Nat) (t1:Bool) (B1:Option Addr) (m1 d1:Nat) (s2:Bool) (A2:Option Addr) (n2 c2:Nat) (t2:Bool) (B2:Option Addr) (m2 d2:Nat) (g:Nat) (w:World) (h0:PF w s0 A0 n0 c0 t0 B0 m0 d0 p q) (h1:PF w s1 A1 n1 c1 t1 B1 m1 d1 r s) (ha:P4 27 w g (.bool s2) (.slice A2 n2 c2) (.bool t2) (.slice B2 m2 d2)) (h2:PF w s2 A2 n2 c2 t2 B2 m2 d2 2 1) (hl:(0 < q∧p.natAbs < lim∧q.natAbs < lim)∧(0 < s∧r.natAbs < lim∧s.natAbs < lim)) :
  Calls Tryz.prog 99 #[.agg #[.bool s0,.slice A0 n0 c0,.bool t0,.slice B0 m0 d0,.bool s1,.slice A1 n1 c1,.bool t1,.slice B1 m1 d1],.pointer (some ⟨g,0,none⟩)] w (RetFE (mdP p q r s) (mdQ p q r s) (mdC p q r s) w):=by
 have HL:=hJ hl
 clear hl
 obtain ⟨W,hW⟩:∃ W,(w.alloc (.cells #[.bool s0,.slice A0 n0 c0,.bool t0,.slice B0 m0 d0,.bool s1,.slice A1 n1 c1,.bool t1,.slice B1 m1 d1] 82)).alloc (.cells #[.bool false,.slice none 0 0,.bool false,.slice none 0 0] 27)=W:=⟨_,rfl⟩
 have HK:=hJ (show Below w.heap.size w W by rw [←hW]; exact ((Below.refl _ w).alloc (Nat.le_refl _) _).alloc (by simp) _)
 have HA:=hJ (show P8 82 W w.heap.size (.bool s0) (.slice A0 n0 c0) (.bool t0) (.slice B0 m0 d0) (.bool s1) (.slice A1 n1 c1) (.bool t1) (.slice B1 m1 d1) by rw [←hW]; exact (P8.lit w _ _ _ _ _ _ _ _ _).new ((Below.refl _ _).alloc (Nat.le_refl _) _))
 have HZ:=hJ (show P4 27 W (w.heap.size+1) (.bool false) (.slice none 0 0) (.bool false) (.slice none 0 0) by
  rw [←hW]
  have h0:=P4.lit (w.alloc (.cells #[.bool s0,.slice A0 n0 c0,.bool t0,.slice B0 m0 d0,.bool s1,.slice A1 n1 c1,.bool t1,.slice B1 m1 d1] 82)) 27 (.bool false) (.slice none 0 0) (.bool false) (.slice none 0 0)
  rw [World.size_alloc] at h0
  exact h0)
 have H0:=hJ (h0.new HK.out)
 have H1:=hJ (h1.new HK.out)
 have H2:=hJ (h2.new HK.out)
 have HT:=hJ (ha.new HK.out)
 clear h0 h1 h2 ha
 obtain ⟨h,hh⟩:∃ h,w.heap.size=h:=⟨_,rfl⟩
 have HH:=hJ hh
 rw [hh] at HA HZ
 obtain ⟨⟨p0,p1,p2,p3⟩,p4,p5,p6,p7⟩:=HA.out.cells
 go_enter Tryz.func99,Tryz.ntmps99
 go_wp2_with fail
 clear hW hh
 refine (fadd_any p q r s s0 t0 s1 t1 A0 B0 A1 B1 n0 c0 m0 d0 n1 c1 m1 d1 W H0.out H1.out HL.out.1.1 HL.out.2.1 HL.out.1.2.1 HL.out.1.2.2 HL.out.2.2.1 HL.out.2.2.2).mono ?_
 clear H0 H1
 have aC:=hJ (And.intro (adQ_pos (p:=p) (r:=r) HL.out.1.1 HL.out.2.1) (ad_lims (p:=p) (q:=q) (r:=r) (s:=s)))
 have HM:Hid (mdP p q r s=(if adC p q r s=0 then dvP (adP p q r s) (adQ p q r s) 2 1 else 0)∧mdQ p q r s=(if adC p q r s=0 then dvQ (adP p q r s) (adQ p q r s) 2 1 else 1)∧mdC p q r s=(if adC p q r s=0 then dvC (adP p q r s) (adQ p q r s) 2 1 else adC p q r s)):=hJ ⟨rfl,rfl,rfl⟩
 obtain ⟨P,hP⟩:=nmz (adP p q r s)
 obtain ⟨Q,hQ⟩:=nmz (adQ p q r s)
 obtain ⟨C,hC⟩:=nmz (adC p q r s)
 rw [hP,hQ] at aC HM
 rw [hC] at HM
 rw [hP,hQ,hC]
 clear hP hQ hC
 rintro e w1 ⟨s3,A3,n3,c3,t3,B3,m3,d3,rfl,hr1,hb1⟩
 obtain ⟨x1,aF⟩:=nmz (w1.alloc (.cells #[.bool s3,.slice A3 n3 c3,.bool t3,.slice B3 m3 d3] 27))
 have aG:=hJ (show Below w1.heap.size w1 x1 by rw [←aF]; exact (Below.refl _ _).alloc (Nat.le_refl _) _)
 have aI:=hJ (show P4 27 x1 w1.heap.size (.bool s3) (.slice A3 n3 c3) (.bool t3) (.slice B3 m3 d3) by rw [←aF]; exact P4.lit _ _ _ _ _ _)
 have aJ:=hJ (hr1.new aG.out)
 have aD:=hJ (bt hb1 aG.out)
 have aH:=hJ (bt HK.out aD.out)
 have aA:=hJ (HZ.out.new aD.out)
 have aK:=hJ (HT.out.new aD.out)
 have H21:=hJ (H2.out.new aD.out)
 clear hr1 hb1 p0 p1 p2 p3 p4 p5 p6 p7
 by_cases hc:C=0
 ·have HV:=hJ (show mdP p q r s=dvP P Q 2 1∧mdQ p q r s=dvQ P Q 2 1∧mdC p q r s=dvC P Q 2 1 from ⟨by rw [HM.out.1,if_pos hc],by rw [HM.out.2.1,if_pos hc],by rw [HM.out.2.2,if_pos hc]⟩)
  subst hc
  obtain ⟨a0,a1,a2,a3⟩:=aI.out.cells
  obtain ⟨b0,b1,b2,b3⟩:=aK.out.cells
  go_wp2_with fail
  refine (fdiv_any P Q 2 1 s3 t3 s2 t2 A3 B3 A2 B2 n3 c3 m3 d3 n2 c2 m2 d2 x1 aJ.out H21.out aC.out.1 (by decide) aC.out.2.1 aC.out.2.2 (i64_lim (by decide)) one_lim).mono ?_
  rintro e w3 ⟨s4,A4,n4,c4,t4,B4,m4,d4,rfl,hr3,hb3⟩
  have aL:=hJ hr3
  have aM:=hJ (bt aH.out hb3)
  have aB:=hJ (aA.out.new hb3)
  clear hr3 hb3 a0 a1 a2 a3 b0 b1 b2 b3
  obtain ⟨z0,z1,z2,z3⟩:=aB.out.cells
  have f0:=aB.out.frozen 0
  have f1:=aB.out.frozen 1
  have f2:=aB.out.frozen 2
  have f3:=aB.out.frozen 3
  go_wp2
  exact bodyPost_ret (results_cell1 rfl _ _ _ _ _ _ _ rfl (aB.out.all (.bool s4) (.slice A4 n4 c4) (.bool t4) (.slice B4 m4 d4)) Tryz.underlying27 rfl F_size) rfl (by rw [HV.out.1,HV.out.2.1,HV.out.2.2]; exact RetFE.stored aL.out aB.out aM.out (by rw [HH.out]; omega) _ _ _ _)
 ·have HV:=hJ (show mdP p q r s=0∧mdQ p q r s=1∧mdC p q r s=C from ⟨by rw [HM.out.1,if_neg hc],by rw [HM.out.2.1,if_neg hc],by rw [HM.out.2.2,if_neg hc]⟩)
  have hcb:(C == 0)=false:=by simp [hc]
  clear hc
  obtain ⟨z0,z1,z2,z3⟩:=aA.out.cells
  have f0:=aA.out.frozen 0
  have f1:=aA.out.frozen 1
  have f2:=aA.out.frozen 2
  have f3:=aA.out.frozen 3
  go_wp2
  exact bodyPost_ret (results_cell1 rfl _ _ _ _ _ _ _ rfl (aA.out.all (.bool false) (.slice none 0 0) (.bool false) (.slice none 0 0)) Tryz.underlying27 rfl F_size) rfl (by rw [HV.out.1,HV.out.2.1,HV.out.2.2]; exact RetFE.stored (p:=0) (q:=1) ⟨PI.zero _,PI.zero _⟩ aA.out aH.out (by rw [HH.out]; omega) _ _ _ _)
end Go.Proofs.YtbgfmegepekapaaGreat


namespace Go.Proofs.YtbgfmegepekapaaGreat
open Go.RowKit
attribute [local go_sem ↓] Go.wp_at_zero Go.wp_at_succ
section
variable {t:TypeId} {w w':World} {b:Nat} {x0 x1 x2 x3 x4 x5 x6 x7 x8 x9 x10 x11 x12 x13 x14 x15:Value}
theorem kx0 (wx:World):(Instr.index 147 (.agg #[x0,x1,x2,x3,x4,x5,x6,x7,x8,x9,x10,x11,x12,x13,x14,x15]) (.int .i64 0)).run Tryz.prog wx=.ok (.agg #[x0,x1,x2,x3,x4,x5,x6,x7]) wx:=by
 first
  | kernel_rfl
  | simp [Instr.index,run_underlying Tryz.underlying147,asIntOf,go_sem]
theorem kx1 (wx:World):(Instr.index 147 (.agg #[x0,x1,x2,x3,x4,x5,x6,x7,x8,x9,x10,x11,x12,x13,x14,x15]) (.int .i64 1)).run Tryz.prog wx=.ok (.agg #[x8,x9,x10,x11,x12,x13,x14,x15]) wx:=by
 first
  | kernel_rfl
  | simp [Instr.index,run_underlying Tryz.underlying147,asIntOf,go_sem]
end
def meC (p q p' q' u v u' v':Int):Int:=if mdC p q p' q'=0 then mdC u v u' v' else mdC p q p' q'
def meX (p q p' q' u v u' v':Int):Int:=if meK p q p' q' u v u' v' then mdP p q p' q' else 0
def meXd (p q p' q' u v u' v':Int):Int:=if meK p q p' q' u v u' v' then mdQ p q p' q' else 1
def meY (p q p' q' u v u' v':Int):Int:=if meK p q p' q' u v u' v' then mdP u v u' v' else 0
def meYd (p q p' q' u v u' v':Int):Int:=if meK p q p' q' u v u' v' then mdQ u v u' v' else 1
set_option maxRecDepth 100000 in
set_option maxHeartbeats 3200000 in
theorem each3_any (p q p' q' u v u' v':Int) (s0:Bool) (A0:Option Addr) (n0 c0:Nat) (t0:Bool) (B0:Option Addr) (m0 d0:Nat) (s1:Bool) (A1:Option Addr) (n1 c1:Nat) (t1:Bool) (B1:Option Addr) (m1 d1:Nat) (s2:Bool) (A2:Option Addr) (n2 c2:Nat) (t2:Bool) (B2:Option Addr) (m2 d2:Nat) (s3:Bool) (A3:Option Addr) (n3 c3:Nat) (t3:Bool) (B3:Option Addr) (m3 d3:Nat) (s6:Bool) (A6:Option Addr) (n6 c6:Nat) (t6:Bool) (B6:Option Addr) (m6 d6:Nat) (g:Nat) (w:World) (h0:PF w s0 A0 n0 c0 t0 B0 m0 d0 p q) (h1:PF w s1 A1 n1 c1 t1 B1 m1 d1 p' q') (h2:PF w s2 A2 n2 c2 t2 B2 m2 d2 u v) (h3:PF w s3 A3 n3 c3 t3 B3 m3 d3 u' v') (ha:P4 27 w g (.bool s6) (.slice A6 n6 c6) (.bool t6) (.slice B6 m6 d6)) (h6:PF w s6 A6 n6 c6 t6 B6 m6 d6 2 1) (hl:((0 < q∧p.natAbs < lim∧q.natAbs < lim)∧(0 < q'∧p'.natAbs < lim∧q'.natAbs < lim))∧(0 < v∧u.natAbs < lim∧v.natAbs < lim)∧(0 < v'∧u'.natAbs < lim∧v'.natAbs < lim)) :
  Calls Tryz.prog 98 #[.agg #[.bool s0,.slice A0 n0 c0,.bool t0,.slice B0 m0 d0,.bool s1,.slice A1 n1 c1,.bool t1,.slice B1 m1 d1,.bool s2,.slice A2 n2 c2,.bool t2,.slice B2 m2 d2,.bool s3,.slice A3 n3 c3,.bool t3,.slice B3 m3 d3],.func (.func 99) #[] #[.pointer (some ⟨g,0,none⟩)]] w (RetTT (meX p q p' q' u v u' v') (meXd p q p' q' u v u' v') (meY p q p' q' u v u' v') (meYd p q p' q' u v u' v') (meC p q p' q' u v u' v') w):=by
 have HL:=hJ hl
 clear hl
 obtain ⟨RX,e1⟩:=nmz (meX p q p' q' u v u' v')
 obtain ⟨RXd,e2⟩:=nmz (meXd p q p' q' u v u' v')
 obtain ⟨RY,e3⟩:=nmz (meY p q p' q' u v u' v')
 obtain ⟨RYd,e4⟩:=nmz (meYd p q p' q' u v u' v')
 obtain ⟨RC,e5⟩:=nmz (meC p q p' q' u v u' v')
 have aD:=hJ (And.intro e1 (And.intro e2 (And.intro e3 (And.intro e4 e5))))
 rw [e1,e2,e3,e4,e5]
 clear e1 e2 e3 e4 e5
 obtain ⟨W,hW⟩:∃ W,((w.alloc (.cells #[.bool s0,.slice A0 n0 c0,.bool t0,.slice B0 m0 d0,.bool s1,.slice A1 n1 c1,.bool t1,.slice B1 m1 d1,.bool s2,.slice A2 n2 c2,.bool t2,.slice B2 m2 d2,.bool s3,.slice A3 n3 c3,.bool t3,.slice B3 m3 d3] 147)).alloc (.cells #[.bool false,.slice none 0 0,.bool false,.slice none 0 0,.bool false,.slice none 0 0,.bool false,.slice none 0 0] 82)).alloc (.cells #[.bool false,.slice none 0 0,.bool false,.slice none 0 0,.bool false,.slice none 0 0,.bool false,.slice none 0 0] 82)=W:=⟨_,rfl⟩
 have HK:=hJ (show Below w.heap.size w W by rw [←hW]; exact (((Below.refl _ w).alloc (Nat.le_refl _) _).alloc (by simp) _).alloc (by simp; omega) _)
 have HA:=hJ (show P16 147 W w.heap.size (.bool s0) (.slice A0 n0 c0) (.bool t0) (.slice B0 m0 d0) (.bool s1) (.slice A1 n1 c1) (.bool t1) (.slice B1 m1 d1) (.bool s2) (.slice A2 n2 c2) (.bool t2) (.slice B2 m2 d2) (.bool s3) (.slice A3 n3 c3) (.bool t3) (.slice B3 m3 d3) by rw [←hW]; exact ((P16.lit w _ _ _ _ _ _ _ _ _ _ _ _ _ _ _ _ _).new ((Below.refl _ _).alloc (Nat.le_refl _) _)).new ((Below.refl _ _).alloc (Nat.le_refl _) _))
 have HZ:=hJ (show P8 82 W (w.heap.size+1) (.bool false) (.slice none 0 0) (.bool false) (.slice none 0 0) (.bool false) (.slice none 0 0) (.bool false) (.slice none 0 0) by
  rw [←hW]
  have h0:=P8.lit (w.alloc (.cells #[.bool s0,.slice A0 n0 c0,.bool t0,.slice B0 m0 d0,.bool s1,.slice A1 n1 c1,.bool t1,.slice B1 m1 d1,.bool s2,.slice A2 n2 c2,.bool t2,.slice B2 m2 d2,.bool s3,.slice A3 n3 c3,.bool t3,.slice B3 m3 d3] 147)) 82 (.bool false) (.slice none 0 0) (.bool false) (.slice none 0 0) (.bool false) (.slice none 0 0) (.bool false) (.slice none 0 0)
  rw [World.size_alloc] at h0
  exact h0.new ((Below.refl _ _).alloc (Nat.le_refl _) _))
 have HR:=hJ (show P8 82 W (w.heap.size+1+1) (.bool false) (.slice none 0 0) (.bool false) (.slice none 0 0) (.bool false) (.slice none 0 0) (.bool false) (.slice none 0 0) by
  rw [←hW]
  have h0:=P8.lit ((w.alloc (.cells #[.bool s0,.slice A0 n0 c0,.bool t0,.slice B0 m0 d0,.bool s1,.slice A1 n1 c1,.bool t1,.slice B1 m1 d1,.bool s2,.slice A2 n2 c2,.bool t2,.slice B2 m2 d2,.bool s3,.slice A3 n3 c3,.bool t3,.slice B3 m3 d3] 147)).alloc (.cells #[.bool false,.slice none 0 0,.bool false,.slice none 0 0,.bool false,.slice none 0 0,.bool false,.slice none 0 0] 82)) 82 (.bool false) (.slice none 0 0) (.bool false) (.slice none 0 0) (.bool false) (.slice none 0 0) (.bool false) (.slice none 0 0)
  rw [World.size_alloc,World.size_alloc] at h0
  exact h0)
 have H0:=hJ (h0.new HK.out)
 have H1:=hJ (h1.new HK.out)
 have H2:=hJ (h2.new HK.out)
 have H3:=hJ (h3.new HK.out)
 have H6:=hJ (h6.new HK.out)
 have HT:=hJ (ha.new HK.out)
 have hgl:g < w.heap.size:=ha.lt
 clear h0 h1 h2 h3 h6 ha
 obtain ⟨h,hh⟩:∃ h,w.heap.size=h:=⟨_,rfl⟩
 have HH:=hJ hh
 have HG:=hJ (show g < h by omega)
 rw [hh] at HA HZ HR
 clear hgl
 obtain ⟨⟨p0,p1,p2,p3⟩,⟨p4,p5,p6,p7⟩,⟨p8,p9,p10,p11⟩,p12,p13,p14,p15⟩:=HA.out.cells
 go_enter Tryz.func98,Tryz.ntmps98
 go_wp2_with fail
 clear hW hh p0 p1 p2 p3 p4 p5 p6 p7 p8 p9 p10 p11 p12 p13 p14 p15 HA
 go_loopw [11] (fun tv wr=>∃ (i:Nat) (s4:Bool) (A4:Option Addr) (n4 c4:Nat) (t4:Bool) (B4:Option Addr) (m4 d4:Nat) (s5:Bool) (A5:Option Addr) (n5 c5:Nat) (t5:Bool) (B5:Option Addr) (m5 d5:Nat),i≤2∧tv=.int .i64 (i:Int)∧P8 82 wr (h+1) (.bool false) (.slice none 0 0) (.bool false) (.slice none 0 0) (.bool false) (.slice none 0 0) (.bool false) (.slice none 0 0)∧P8 82 wr (h+1+1) (.bool s4) (.slice A4 n4 c4) (.bool t4) (.slice B4 m4 d4) (.bool s5) (.slice A5 n5 c5) (.bool t5) (.slice B5 m5 d5)∧(PF wr s0 A0 n0 c0 t0 B0 m0 d0 p q∧PF wr s1 A1 n1 c1 t1 B1 m1 d1 p' q'∧PF wr s2 A2 n2 c2 t2 B2 m2 d2 u v∧PF wr s3 A3 n3 c3 t3 B3 m3 d3 u' v'∧PF wr s6 A6 n6 c6 t6 B6 m6 d6 2 1)∧P4 27 wr g (.bool s6) (.slice A6 n6 c6) (.bool t6) (.slice B6 m6 d6)∧PF wr s4 A4 n4 c4 t4 B4 m4 d4 (if 0 < i then mdP p q p' q' else 0) (if 0 < i then mdQ p q p' q' else 1)∧PF wr s5 A5 n5 c5 t5 B5 m5 d5 (if 1 < i then mdP u v u' v' else 0) (if 1 < i then mdQ u v u' v' else 1)∧Hid ((0 < i→mdC p q p' q'=0)∧(1 < i→mdC u v u' v'=0))∧Below w.heap.size w wr) (fun tv _=>2 - (intOf tv).toNat)
 case atStart=>exact ⟨0,_,_,_,_,_,_,_,_,_,_,_,_,_,_,_,_,by omega,rfl,HZ.out,HR.out,⟨H0.out,H1.out,H2.out,H3.out,H6.out⟩,HT.out,(by rw [if_neg (show ¬ 0 < 0 by omega),if_neg (show ¬ 0 < 0 by omega)]; exact PF.zero W),(by rw [if_neg (show ¬ 1 < 0 by omega),if_neg (show ¬ 1 < 0 by omega)]; exact PF.zero W),hJ ⟨fun h=>by omega,fun h=>by omega⟩,HK.out⟩
 case round =>
  clear HZ HR HK H0 H1 H2 H3 H6 HT
  obtain ⟨i,s4,A4,n4,c4,t4,B4,m4,d4,s5,A5,n5,c5,t5,B5,m5,d5,hi,rfl,hz,hr,⟨h0,h1,h2,h3,h6⟩,ht,h4,h5,hle,hbel⟩:=hrel
  have HZ:=hJ hz
  have HR:=hJ hr
  have H0:=hJ h0
  have H1:=hJ h1
  have H2:=hJ h2
  have H3:=hJ h3
  have H6:=hJ h6
  have HT:=hJ ht
  have H4:=hJ h4
  have H5:=hJ h5
  have HB:=hJ hbel
  clear hz hr h0 h1 h2 h3 h6 ht h4 h5 hbel
  have hi3:i=0∨i=1∨i=2:=by omega
  rcases hi3 with rfl | rfl | rfl
  ·rw [if_neg (show ¬ 1 < 0 by omega),if_neg (show ¬ 1 < 0 by omega)] at H5
   have hix:=fun wx=>kx0 (x0:=.bool s0) (x1:=.slice A0 n0 c0) (x2:=.bool t0) (x3:=.slice B0 m0 d0) (x4:=.bool s1) (x5:=.slice A1 n1 c1) (x6:=.bool t1) (x7:=.slice B1 m1 d1) (x8:=.bool s2) (x9:=.slice A2 n2 c2) (x10:=.bool t2) (x11:=.slice B2 m2 d2) (x12:=.bool s3) (x13:=.slice A3 n3 c3) (x14:=.bool t3) (x15:=.slice B3 m3 d3) wx
   obtain ⟨X,hX⟩:∃ X,wr.alloc (.cells #[.bool s0,.slice A0 n0 c0,.bool t0,.slice B0 m0 d0,.bool s1,.slice A1 n1 c1,.bool t1,.slice B1 m1 d1] 82)=X:=⟨_,rfl⟩
   have aF:=hJ (show Below wr.heap.size wr X by rw [←hX]; exact (Below.refl _ _).alloc (Nat.le_refl _) _)
   have aH:=hJ (show P8 82 X wr.heap.size (.bool s0) (.slice A0 n0 c0) (.bool t0) (.slice B0 m0 d0) (.bool s1) (.slice A1 n1 c1) (.bool t1) (.slice B1 m1 d1) by rw [←hX]; exact P8.lit _ _ _ _ _ _ _ _ _ _)
   obtain ⟨⟨q0,q1,q2,q3⟩,q4,q5,q6,q7⟩:=aH.out.cells
   go_wp2_with fail
   clear hix hX
   refine (mid1_any p q p' q' s0 A0 n0 c0 t0 B0 m0 d0 s1 A1 n1 c1 t1 B1 m1 d1 s6 A6 n6 c6 t6 B6 m6 d6 g X (H0.out.new aF.out) (H1.out.new aF.out) (HT.out.new aF.out) (H6.out.new aF.out) HL.out.1).mono ?_
   obtain ⟨code,hcode⟩:=nmz (mdC p q p' q')
   have aG:=hJ hcode
   rw [hcode]
   clear hcode
   rintro e w2 ⟨s7,A7,n7,c7,t7,B7,m7,d7,rfl,hr2,hb2⟩
   have aA:=hJ (bt aF.out hb2)
   have aI:=hJ hr2
   have aJ:=hJ (HZ.out.new aA.out)
   have aC:=hJ (HR.out.new aA.out)
   have aK:=hJ (bt HB.out aA.out)
   clear hr2 hb2 q0 q1 q2 q3 q4 q5 q6 q7
   obtain ⟨⟨p0,p1,p2,p3⟩,p4,p5,p6,p7⟩:=aC.out.cells
   have f0:=aC.out.frozen 0
   have f1:=aC.out.frozen 1
   have f2:=aC.out.frozen 2
   have f3:=aC.out.frozen 3
   obtain ⟨U,hU⟩:∃ U,(((w2.setCell ⟨h+1+1,0,none⟩ (.bool s7)).setCell ⟨h+1+1,1,none⟩ (.slice A7 n7 c7)).setCell ⟨h+1+1,2,none⟩ (.bool t7)).setCell ⟨h+1+1,3,none⟩ (.slice B7 m7 d7)=U:=⟨_,rfl⟩
   have hno:NoW w2 (h+1+1):=noW_of aC.out rfl
   have hkp:Kp (· = h+1+1) w2 U:=by rw [←hU]; exact kp4 w2 (h+1+1) 0 _ _ _ _
   have aM:=hJ (show P8 82 U (h+1+1) (.bool s7) (.slice A7 n7 c7) (.bool t7) (.slice B7 m7 d7) (.bool s5) (.slice A5 n5 c5) (.bool t5) (.slice B5 m5 d5) by rw [←hU]; exact aC.out.lo _ _ _ _)
   have aB:=hJ (show P8 82 U (h+1) (.bool false) (.slice none 0 0) (.bool false) (.slice none 0 0) (.bool false) (.slice none 0 0) (.bool false) (.slice none 0 0) by rw [←hU]; exact (((aJ.out.far (p:=⟨h+1+1,0,none⟩) (by simp) _).far (p:=⟨h+1+1,1,none⟩) (by simp) _).far (p:=⟨h+1+1,2,none⟩) (by simp) _).far (p:=⟨h+1+1,3,none⟩) (by simp) _)
   have hge:g≠h+1+1:=by have:=HG.out; omega
   have aN:=hJ (show P4 27 U g (.bool s6) (.slice A6 n6 c6) (.bool t6) (.slice B6 m6 d6) by rw [←hU]; exact ((((HT.out.new aA.out).far (p:=⟨h+1+1,0,none⟩) hge _).far (p:=⟨h+1+1,1,none⟩) hge _).far (p:=⟨h+1+1,2,none⟩) hge _).far (p:=⟨h+1+1,3,none⟩) hge _)
   have H73:=hJ (PF.apart aI.out hkp hno)
   have H03:=hJ (PF.apart (H0.out.new aA.out) hkp hno)
   have H13:=hJ (PF.apart (H1.out.new aA.out) hkp hno)
   have H23:=hJ (PF.apart (H2.out.new aA.out) hkp hno)
   have H33:=hJ (PF.apart (H3.out.new aA.out) hkp hno)
   have H63:=hJ (PF.apart (H6.out.new aA.out) hkp hno)
   have aO:=hJ (PF.apart (H5.out.new aA.out) hkp hno)
   have aL:=hJ (show Below w.heap.size w U by rw [←hU]; exact below4 aK.out (by rw [HH.out]; omega) 0 _ _ _ _)
   clear hno hkp hge aI aJ aC aK aA aF aH HZ HR H0 H1 H2 H3 H4 H5 H6 HT HB
   by_cases hc:code=0
   ·subst hc
    go_wp2
    go_roundw
    case rel=>exact ⟨1,s7,A7,n7,c7,t7,B7,m7,d7,s5,A5,n5,c5,t5,B5,m5,d5,by omega,by go_num,aB.out,aM.out,⟨H03.out,H13.out,H23.out,H33.out,H63.out⟩,aN.out,(by rw [if_pos (show 0 < 1 by omega),if_pos (show 0 < 1 by omega)]; exact H73.out),(by rw [if_neg (show ¬ 1 < 1 by omega),if_neg (show ¬ 1 < 1 by omega)]; exact aO.out),hJ ⟨fun _=>aG.out,fun _=>by omega⟩,aL.out⟩
    case measure=>simp [intOf]
   have HN:=hJ hc
   have hcb:(code == 0)=false:=by simp [hc]
   have HE:=hJ (show RX=0∧RXd=1∧RY=0∧RYd=1∧RC=code by
    have hne:¬ meK p q p' q' u v u' v':=fun h=>HN.out (by rw [←aG.out]; exact h.1)
    refine ⟨by rw [←aD.out.1]; exact if_neg hne,by rw [←aD.out.2.1]; exact if_neg hne,by rw [←aD.out.2.2.1]; exact if_neg hne,by rw [←aD.out.2.2.2.1]; exact if_neg hne,?_⟩
    rw [←aD.out.2.2.2.2]
    rw [meC,if_neg (by rw [aG.out]; exact HN.out),aG.out])
   clear hc
   obtain ⟨⟨z0,z1,z2,z3⟩,z4,z5,z6,z7⟩:=aB.out.cells
   have g0:=aB.out.frozen 0
   have g1:=aB.out.frozen 1
   have g2:=aB.out.frozen 2
   have g3:=aB.out.frozen 3
   have g4:=aB.out.frozen 4
   have g5:=aB.out.frozen 5
   have g6:=aB.out.frozen 6
   have g7:=aB.out.frozen 7
   go_wp2
   exact bodyPost_ret (results_cell1 rfl _ _ _ _ _ _ _ rfl (aB.out.all (.bool false) (.slice none 0 0) (.bool false) (.slice none 0 0) (.bool false) (.slice none 0 0) (.bool false) (.slice none 0 0)) Tryz.underlying82 rfl T8_size) rfl (by rw [HE.out.1,HE.out.2.1,HE.out.2.2.1,HE.out.2.2.2.1,HE.out.2.2.2.2]; exact ⟨_,_,_,_,_,_,_,_,_,_,_,_,_,_,_,_,rfl,PF.zero _,PF.zero _,below8 aL.out (by rw [HH.out]; omega) _ _ _ _ _ _ _ _⟩)
  ·rw [if_pos (show 0 < 1 by omega),if_pos (show 0 < 1 by omega)] at H4
   have hix:=fun wx=>kx1 (x0:=.bool s0) (x1:=.slice A0 n0 c0) (x2:=.bool t0) (x3:=.slice B0 m0 d0) (x4:=.bool s1) (x5:=.slice A1 n1 c1) (x6:=.bool t1) (x7:=.slice B1 m1 d1) (x8:=.bool s2) (x9:=.slice A2 n2 c2) (x10:=.bool t2) (x11:=.slice B2 m2 d2) (x12:=.bool s3) (x13:=.slice A3 n3 c3) (x14:=.bool t3) (x15:=.slice B3 m3 d3) wx
   obtain ⟨X,hX⟩:∃ X,wr.alloc (.cells #[.bool s2,.slice A2 n2 c2,.bool t2,.slice B2 m2 d2,.bool s3,.slice A3 n3 c3,.bool t3,.slice B3 m3 d3] 82)=X:=⟨_,rfl⟩
   have aF:=hJ (show Below wr.heap.size wr X by rw [←hX]; exact (Below.refl _ _).alloc (Nat.le_refl _) _)
   have aH:=hJ (show P8 82 X wr.heap.size (.bool s2) (.slice A2 n2 c2) (.bool t2) (.slice B2 m2 d2) (.bool s3) (.slice A3 n3 c3) (.bool t3) (.slice B3 m3 d3) by rw [←hX]; exact P8.lit _ _ _ _ _ _ _ _ _ _)
   obtain ⟨⟨q0,q1,q2,q3⟩,q4,q5,q6,q7⟩:=aH.out.cells
   go_wp2_with fail
   clear hix hX
   refine (mid1_any u v u' v' s2 A2 n2 c2 t2 B2 m2 d2 s3 A3 n3 c3 t3 B3 m3 d3 s6 A6 n6 c6 t6 B6 m6 d6 g X (H2.out.new aF.out) (H3.out.new aF.out) (HT.out.new aF.out) (H6.out.new aF.out) HL.out.2).mono ?_
   obtain ⟨code,hcode⟩:=nmz (mdC u v u' v')
   have aG:=hJ hcode
   rw [hcode]
   clear hcode
   rintro e w2 ⟨s7,A7,n7,c7,t7,B7,m7,d7,rfl,hr2,hb2⟩
   have aA:=hJ (bt aF.out hb2)
   have aI:=hJ hr2
   have aJ:=hJ (HZ.out.new aA.out)
   have aC:=hJ (HR.out.new aA.out)
   have aK:=hJ (bt HB.out aA.out)
   clear hr2 hb2 q0 q1 q2 q3 q4 q5 q6 q7
   obtain ⟨⟨p0,p1,p2,p3⟩,p4,p5,p6,p7⟩:=aC.out.cells
   have f0:=aC.out.frozen 4
   have f1:=aC.out.frozen 5
   have f2:=aC.out.frozen 6
   have f3:=aC.out.frozen 7
   obtain ⟨U,hU⟩:∃ U,(((w2.setCell ⟨h+1+1,4,none⟩ (.bool s7)).setCell ⟨h+1+1,5,none⟩ (.slice A7 n7 c7)).setCell ⟨h+1+1,6,none⟩ (.bool t7)).setCell ⟨h+1+1,7,none⟩ (.slice B7 m7 d7)=U:=⟨_,rfl⟩
   have hno:NoW w2 (h+1+1):=noW_of aC.out rfl
   have hkp:Kp (· = h+1+1) w2 U:=by rw [←hU]; exact kp4 w2 (h+1+1) 4 _ _ _ _
   have aM:=hJ (show P8 82 U (h+1+1) (.bool s4) (.slice A4 n4 c4) (.bool t4) (.slice B4 m4 d4) (.bool s7) (.slice A7 n7 c7) (.bool t7) (.slice B7 m7 d7) by rw [←hU]; exact aC.out.hi _ _ _ _)
   have aB:=hJ (show P8 82 U (h+1) (.bool false) (.slice none 0 0) (.bool false) (.slice none 0 0) (.bool false) (.slice none 0 0) (.bool false) (.slice none 0 0) by rw [←hU]; exact (((aJ.out.far (p:=⟨h+1+1,4,none⟩) (by simp) _).far (p:=⟨h+1+1,5,none⟩) (by simp) _).far (p:=⟨h+1+1,6,none⟩) (by simp) _).far (p:=⟨h+1+1,7,none⟩) (by simp) _)
   have hge:g≠h+1+1:=by have:=HG.out; omega
   have aN:=hJ (show P4 27 U g (.bool s6) (.slice A6 n6 c6) (.bool t6) (.slice B6 m6 d6) by rw [←hU]; exact ((((HT.out.new aA.out).far (p:=⟨h+1+1,4,none⟩) hge _).far (p:=⟨h+1+1,5,none⟩) hge _).far (p:=⟨h+1+1,6,none⟩) hge _).far (p:=⟨h+1+1,7,none⟩) hge _)
   have H73:=hJ (PF.apart aI.out hkp hno)
   have H03:=hJ (PF.apart (H0.out.new aA.out) hkp hno)
   have H13:=hJ (PF.apart (H1.out.new aA.out) hkp hno)
   have H23:=hJ (PF.apart (H2.out.new aA.out) hkp hno)
   have H33:=hJ (PF.apart (H3.out.new aA.out) hkp hno)
   have H63:=hJ (PF.apart (H6.out.new aA.out) hkp hno)
   have aO:=hJ (PF.apart (H4.out.new aA.out) hkp hno)
   have aL:=hJ (show Below w.heap.size w U by rw [←hU]; exact below4 aK.out (by rw [HH.out]; omega) 4 _ _ _ _)
   clear hno hkp hge aI aJ aC aK aA aF aH HZ HR H0 H1 H2 H3 H4 H5 H6 HT HB
   by_cases hc:code=0
   ·subst hc
    go_wp2
    go_roundw
    case rel=>exact ⟨2,s4,A4,n4,c4,t4,B4,m4,d4,s7,A7,n7,c7,t7,B7,m7,d7,by omega,by go_num,aB.out,aM.out,⟨H03.out,H13.out,H23.out,H33.out,H63.out⟩,aN.out,(by rw [if_pos (show 0 < 2 by omega),if_pos (show 0 < 2 by omega)]; exact aO.out),(by rw [if_pos (show 1 < 2 by omega),if_pos (show 1 < 2 by omega)]; exact H73.out),hJ ⟨fun _=>hle.out.1 (by omega),fun _=>aG.out⟩,aL.out⟩
    case measure=>simp [intOf]
   have HN:=hJ hc
   have hcb:(code == 0)=false:=by simp [hc]
   have HE:=hJ (show RX=0∧RXd=1∧RY=0∧RYd=1∧RC=code by
    have hne:¬ meK p q p' q' u v u' v':=fun h=>HN.out (by rw [←aG.out]; exact h.2)
    refine ⟨by rw [←aD.out.1]; exact if_neg hne,by rw [←aD.out.2.1]; exact if_neg hne,by rw [←aD.out.2.2.1]; exact if_neg hne,by rw [←aD.out.2.2.2.1]; exact if_neg hne,?_⟩
    rw [←aD.out.2.2.2.2]
    rw [meC,if_pos (hle.out.1 (by omega)),aG.out])
   clear hc
   obtain ⟨⟨z0,z1,z2,z3⟩,z4,z5,z6,z7⟩:=aB.out.cells
   have g0:=aB.out.frozen 0
   have g1:=aB.out.frozen 1
   have g2:=aB.out.frozen 2
   have g3:=aB.out.frozen 3
   have g4:=aB.out.frozen 4
   have g5:=aB.out.frozen 5
   have g6:=aB.out.frozen 6
   have g7:=aB.out.frozen 7
   go_wp2
   exact bodyPost_ret (results_cell1 rfl _ _ _ _ _ _ _ rfl (aB.out.all (.bool false) (.slice none 0 0) (.bool false) (.slice none 0 0) (.bool false) (.slice none 0 0) (.bool false) (.slice none 0 0)) Tryz.underlying82 rfl T8_size) rfl (by rw [HE.out.1,HE.out.2.1,HE.out.2.2.1,HE.out.2.2.2.1,HE.out.2.2.2.2]; exact ⟨_,_,_,_,_,_,_,_,_,_,_,_,_,_,_,_,rfl,PF.zero _,PF.zero _,below8 aL.out (by rw [HH.out]; omega) _ _ _ _ _ _ _ _⟩)
  ·rw [if_pos (show 0 < 2 by omega),if_pos (show 0 < 2 by omega)] at H4
   rw [if_pos (show 1 < 2 by omega),if_pos (show 1 < 2 by omega)] at H5
   have HE:=hJ (show RX=mdP p q p' q'∧RXd=mdQ p q p' q'∧RY=mdP u v u' v'∧RYd=mdQ u v u' v'∧RC=0 by
    have hk:meK p q p' q' u v u' v':=⟨hle.out.1 (by omega),hle.out.2 (by omega)⟩
    exact ⟨by rw [←aD.out.1]; exact if_pos hk,by rw [←aD.out.2.1]; exact if_pos hk,by rw [←aD.out.2.2.1]; exact if_pos hk,by rw [←aD.out.2.2.2.1]; exact if_pos hk,by rw [←aD.out.2.2.2.2,meC,if_pos hk.1,hk.2]⟩)
   obtain ⟨⟨p0,p1,p2,p3⟩,p4,p5,p6,p7⟩:=HR.out.cells
   obtain ⟨⟨z0,z1,z2,z3⟩,z4,z5,z6,z7⟩:=HZ.out.cells
   have g0:=HZ.out.frozen 0
   have g1:=HZ.out.frozen 1
   have g2:=HZ.out.frozen 2
   have g3:=HZ.out.frozen 3
   have g4:=HZ.out.frozen 4
   have g5:=HZ.out.frozen 5
   have g6:=HZ.out.frozen 6
   have g7:=HZ.out.frozen 7
   have aR:=hJ (show NoW wr (h+1) from noW_of HZ.out rfl)
   go_wp2
   exact bodyPost_ret (results_cell1 rfl _ _ _ _ _ _ _ rfl (HZ.out.all (.bool s4) (.slice A4 n4 c4) (.bool t4) (.slice B4 m4 d4) (.bool s5) (.slice A5 n5 c5) (.bool t5) (.slice B5 m5 d5)) Tryz.underlying82 rfl T8_size) rfl (by rw [HE.out.1,HE.out.2.1,HE.out.2.2.1,HE.out.2.2.2.1,HE.out.2.2.2.2]; exact ⟨s4,A4,n4,c4,t4,B4,m4,d4,s5,A5,n5,c5,t5,B5,m5,d5,rfl,PF.apart H4.out (kp8 wr (h+1) _ _ _ _ _ _ _ _) aR.out,PF.apart H5.out (kp8 wr (h+1) _ _ _ _ _ _ _ _) aR.out,below8 HB.out (by rw [HH.out]; omega) _ _ _ _ _ _ _ _⟩)
end Go.Proofs.YtbgfmegepekapaaGreat


namespace Go.Proofs.YtbgfmegepekapaaGreat
open Go.RowKit
attribute [local go_sem ↓] Go.wp_at_zero Go.wp_at_succ
set_option maxRecDepth 100000 in
set_option maxHeartbeats 3200000 in
theorem pmid_any (p q u v p' q' u' v':Int) (s0:Bool) (A0:Option Addr) (n0 c0:Nat) (t0:Bool) (B0:Option Addr) (m0 d0:Nat) (s1:Bool) (A1:Option Addr) (n1 c1:Nat) (t1:Bool) (B1:Option Addr) (m1 d1:Nat) (s2:Bool) (A2:Option Addr) (n2 c2:Nat) (t2:Bool) (B2:Option Addr) (m2 d2:Nat) (s3:Bool) (A3:Option Addr) (n3 c3:Nat) (t3:Bool) (B3:Option Addr) (m3 d3:Nat) (w:World) (h0:PF w s0 A0 n0 c0 t0 B0 m0 d0 p q) (h1:PF w s1 A1 n1 c1 t1 B1 m1 d1 u v) (h2:PF w s2 A2 n2 c2 t2 B2 m2 d2 p' q') (h3:PF w s3 A3 n3 c3 t3 B3 m3 d3 u' v') (hl:((0 < q∧p.natAbs < lim∧q.natAbs < lim)∧(0 < q'∧p'.natAbs < lim∧q'.natAbs < lim))∧(0 < v∧u.natAbs < lim∧v.natAbs < lim)∧(0 < v'∧u'.natAbs < lim∧v'.natAbs < lim)) :
  Calls Tryz.prog 54 #[.agg #[.bool s0,.slice A0 n0 c0,.bool t0,.slice B0 m0 d0,.bool s1,.slice A1 n1 c1,.bool t1,.slice B1 m1 d1],.agg #[.bool s2,.slice A2 n2 c2,.bool t2,.slice B2 m2 d2,.bool s3,.slice A3 n3 c3,.bool t3,.slice B3 m3 d3]] w (RetTT (meX p q p' q' u v u' v') (meXd p q p' q' u v u' v') (meY p q p' q' u v u' v') (meYd p q p' q' u v u' v') (meC p q p' q' u v u' v') w):=by
 have HL:=hJ hl
 clear hl
 obtain ⟨W,hW⟩:∃ W,((w.alloc (.cells #[.bool s0,.slice A0 n0 c0,.bool t0,.slice B0 m0 d0,.bool s1,.slice A1 n1 c1,.bool t1,.slice B1 m1 d1] 29)).alloc (.cells #[.bool s2,.slice A2 n2 c2,.bool t2,.slice B2 m2 d2,.bool s3,.slice A3 n3 c3,.bool t3,.slice B3 m3 d3] 29)).alloc (.cells #[.bool false,.slice none 0 0,.bool false,.slice none 0 0,.bool false,.slice none 0 0,.bool false,.slice none 0 0] 29)=W:=⟨_,rfl⟩
 have HK:=hJ (show Below w.heap.size w W by rw [←hW]; exact (((Below.refl _ w).alloc (Nat.le_refl _) _).alloc (by simp) _).alloc (by simp; omega) _)
 have HA:=hJ (show P8 29 W w.heap.size (.bool s0) (.slice A0 n0 c0) (.bool t0) (.slice B0 m0 d0) (.bool s1) (.slice A1 n1 c1) (.bool t1) (.slice B1 m1 d1) by rw [←hW]; exact ((P8.lit w _ _ _ _ _ _ _ _ _).new ((Below.refl _ _).alloc (Nat.le_refl _) _)).new ((Below.refl _ _).alloc (Nat.le_refl _) _))
 have HB:=hJ (show P8 29 W (w.heap.size+1) (.bool s2) (.slice A2 n2 c2) (.bool t2) (.slice B2 m2 d2) (.bool s3) (.slice A3 n3 c3) (.bool t3) (.slice B3 m3 d3) by
  rw [←hW]
  have h0:=P8.lit (w.alloc (.cells #[.bool s0,.slice A0 n0 c0,.bool t0,.slice B0 m0 d0,.bool s1,.slice A1 n1 c1,.bool t1,.slice B1 m1 d1] 29)) 29 (.bool s2) (.slice A2 n2 c2) (.bool t2) (.slice B2 m2 d2) (.bool s3) (.slice A3 n3 c3) (.bool t3) (.slice B3 m3 d3)
  rw [World.size_alloc] at h0
  exact h0.new ((Below.refl _ _).alloc (Nat.le_refl _) _))
 have HZ:=hJ (show P8 29 W (w.heap.size+1+1) (.bool false) (.slice none 0 0) (.bool false) (.slice none 0 0) (.bool false) (.slice none 0 0) (.bool false) (.slice none 0 0) by
  rw [←hW]
  have h0:=P8.lit ((w.alloc (.cells #[.bool s0,.slice A0 n0 c0,.bool t0,.slice B0 m0 d0,.bool s1,.slice A1 n1 c1,.bool t1,.slice B1 m1 d1] 29)).alloc (.cells #[.bool s2,.slice A2 n2 c2,.bool t2,.slice B2 m2 d2,.bool s3,.slice A3 n3 c3,.bool t3,.slice B3 m3 d3] 29)) 29 (.bool false) (.slice none 0 0) (.bool false) (.slice none 0 0) (.bool false) (.slice none 0 0) (.bool false) (.slice none 0 0)
  rw [World.size_alloc,World.size_alloc] at h0
  exact h0)
 have H0:=hJ (h0.new HK.out)
 have H1:=hJ (h1.new HK.out)
 have H2:=hJ (h2.new HK.out)
 have H3:=hJ (h3.new HK.out)
 clear h0 h1 h2 h3
 obtain ⟨h,hh⟩:∃ h,w.heap.size=h:=⟨_,rfl⟩
 have HH:=hJ hh
 rw [hh] at HA HB HZ
 obtain ⟨RX,e1⟩:=nmz (meX p q p' q' u v u' v')
 obtain ⟨RXd,e2⟩:=nmz (meXd p q p' q' u v u' v')
 obtain ⟨RY,e3⟩:=nmz (meY p q p' q' u v u' v')
 obtain ⟨RYd,e4⟩:=nmz (meYd p q p' q' u v u' v')
 obtain ⟨RC,e5⟩:=nmz (meC p q p' q' u v u' v')
 have aC:=hJ (And.intro e1 (And.intro e2 (And.intro e3 (And.intro e4 e5))))
 rw [e1,e2,e3,e4,e5]
 clear e1 e2 e3 e4 e5
 go_enter Tryz.func54,Tryz.ntmps54
 go_wp2_with fail
 clear hW hh
 refine (fof_any 2 1 W (by decide) (by decide)).mono ?_
 rw [(mk_one 2).1,(mk_one 2).2.1,(mk_one 2).2.2]
 rintro e w1 ⟨s4,A4,n4,c4,t4,B4,m4,d4,rfl,hr1,hb1⟩
 obtain ⟨x1,aD⟩:=nmz (w1.alloc (.cells #[.bool s4,.slice A4 n4 c4,.bool t4,.slice B4 m4 d4] 27))
 have aI:=hJ (show Below w1.heap.size w1 x1 by rw [←aD]; exact (Below.refl _ _).alloc (Nat.le_refl _) _)
 have aJ:=hJ (show P4 27 x1 w1.heap.size (.bool s4) (.slice A4 n4 c4) (.bool t4) (.slice B4 m4 d4) by rw [←aD]; exact P4.lit _ _ _ _ _ _)
 obtain ⟨x2,aF⟩:=nmz (x1.alloc (.cells #[.bool s0,.slice A0 n0 c0,.bool t0,.slice B0 m0 d0,.bool s2,.slice A2 n2 c2,.bool t2,.slice B2 m2 d2,.bool s1,.slice A1 n1 c1,.bool t1,.slice B1 m1 d1,.bool s3,.slice A3 n3 c3,.bool t3,.slice B3 m3 d3] 147))
 have aG:=hJ (show Below x1.heap.size x1 x2 by rw [←aF]; exact (Below.refl _ _).alloc (Nat.le_refl _) _)
 have aK:=hJ (show P16 147 x2 x1.heap.size (.bool s0) (.slice A0 n0 c0) (.bool t0) (.slice B0 m0 d0) (.bool s2) (.slice A2 n2 c2) (.bool t2) (.slice B2 m2 d2) (.bool s1) (.slice A1 n1 c1) (.bool t1) (.slice B1 m1 d1) (.bool s3) (.slice A3 n3 c3) (.bool t3) (.slice B3 m3 d3) by rw [←aF]; exact P16.lit _ _ _ _ _ _ _ _ _ _ _ _ _ _ _ _ _ _)
 have aH:=hJ (bt hb1 aI.out)
 have aB:=hJ (bt aH.out aG.out)
 have aL:=hJ (HA.out.new aH.out)
 have aM:=hJ (HB.out.new aH.out)
 have aS:=hJ (HZ.out.new aB.out)
 have H02:=hJ (H0.out.new aB.out)
 have H12:=hJ (H1.out.new aB.out)
 have H22:=hJ (H2.out.new aB.out)
 have H32:=hJ (H3.out.new aB.out)
 have aN:=hJ (aJ.out.new aG.out)
 have aO:=hJ ((hr1.new aI.out).new aG.out)
 have aT:=hJ (bt HK.out aB.out)
 clear hr1 hb1 HA HB HZ H0 H1 H2 H3 HK
 obtain ⟨⟨p0,p1,p2,p3⟩,p4,p5,p6,p7⟩:=aL.out.cells
 obtain ⟨⟨q0,q1,q2,q3⟩,q4,q5,q6,q7⟩:=aM.out.cells
 obtain ⟨⟨r0,r1,r2,r3⟩,⟨r4,r5,r6,r7⟩,⟨r8,r9,r10,r11⟩,r12,r13,r14,r15⟩:=aK.out.cells
 go_wp2_with fail
 clear aD aF p0 p1 p2 p3 p4 p5 p6 p7 q0 q1 q2 q3 q4 q5 q6 q7 r0 r1 r2 r3 r4 r5 r6 r7 r8 r9 r10 r11 r12 r13 r14 r15
 refine (each3_any p q p' q' u v u' v' s0 A0 n0 c0 t0 B0 m0 d0 s2 A2 n2 c2 t2 B2 m2 d2 s1 A1 n1 c1 t1 B1 m1 d1 s3 A3 n3 c3 t3 B3 m3 d3 s4 A4 n4 c4 t4 B4 m4 d4 w1.heap.size x2 H02.out H22.out H12.out H32.out aN.out aO.out HL.out).mono ?_
 rw [aC.out.1,aC.out.2.1,aC.out.2.2.1,aC.out.2.2.2.1,aC.out.2.2.2.2]
 clear H02 H12 H22 H32 aN aO aL aM aJ aK
 rintro e w3 ⟨s5,A5,n5,c5,t5,B5,m5,d5,s6,A6,n6,c6,t6,B6,m6,d6,rfl,h5,h6,hb3⟩
 have H5:=hJ h5
 have H6:=hJ h6
 have aU:=hJ (bt aT.out hb3)
 have aV:=hJ (aS.out.new hb3)
 clear h5 h6 hb3
 go_wp2_with fail
 refine (rational_any RX RXd RY RYd s5 A5 n5 c5 t5 B5 m5 d5 s6 A6 n6 c6 t6 B6 m6 d6 RC w3 H5.out H6.out).mono ?_
 clear H5 H6
 rintro e w4 ⟨s7,A7,n7,c7,t7,B7,m7,d7,s8,A8,n8,c8,t8,B8,m8,d8,rfl,h5,h6,hb4⟩
 have H5:=hJ h5
 have H6:=hJ h6
 have aW:=hJ (bt aU.out hb4)
 have aA:=hJ (aV.out.new hb4)
 clear h5 h6 hb4
 obtain ⟨⟨z0,z1,z2,z3⟩,z4,z5,z6,z7⟩:=aA.out.cells
 have g0:=aA.out.frozen 0
 have g1:=aA.out.frozen 1
 have g2:=aA.out.frozen 2
 have g3:=aA.out.frozen 3
 have g4:=aA.out.frozen 4
 have g5:=aA.out.frozen 5
 have g6:=aA.out.frozen 6
 have g7:=aA.out.frozen 7
 have aR:=hJ (show NoW w4 (h+1+1) from noW_of aA.out rfl)
 go_wp2
 exact bodyPost_ret (results_cell1 rfl _ _ _ _ _ _ _ rfl (aA.out.all (.bool s7) (.slice A7 n7 c7) (.bool t7) (.slice B7 m7 d7) (.bool s8) (.slice A8 n8 c8) (.bool t8) (.slice B8 m8 d8)) Tryz.underlying29 rfl TP_size) rfl ⟨s7,A7,n7,c7,t7,B7,m7,d7,s8,A8,n8,c8,t8,B8,m8,d8,rfl,PF.apart H5.out (kp8 w4 (h+1+1) _ _ _ _ _ _ _ _) aR.out,PF.apart H6.out (kp8 w4 (h+1+1) _ _ _ _ _ _ _ _) aR.out,below8 aW.out (by rw [HH.out]; omega) _ _ _ _ _ _ _ _⟩
end Go.Proofs.YtbgfmegepekapaaGreat


namespace Go.Proofs.YtbgfmegepekapaaGreat
open Go.RowKit
attribute [local go_sem ↓] Go.wp_at_zero Go.wp_at_succ
theorem sm_lim {x:Int} (h:x.natAbs < 18446744073709551616):x.natAbs < lim:=B2.lim (k:=64) (by have e:B2 64=18446744073709551616:=rfl; omega) (by decide)
theorem mid_half {n:Int} (h:n=1∨n=3):mdC 0 1 n 1=0∧mdP 0 1 n 1=n∧mdQ 0 1 n 1=2:=by
 have hg:adG 1 1=1:=rfl
 have hN:adN 0 1 n 1=n:=by unfold adN; rw [hg]; rcases h with rfl | rfl <;> decide
 have hD:adD 1 1=1:=by unfold adD; rw [hg]; decide
 have hK:adK 0 1 n 1:=by
  unfold adK
  rw [hN,hD,hg]
  refine ⟨sm_lim (by decide),sm_lim ?_,sm_lim ?_,sm_lim (by decide)⟩ <;> rcases h with rfl | rfl <;> decide
 have hH:adH 0 1 n 1=1:=by unfold adH; rw [hN,hg]; rcases h with rfl | rfl <;> rfl
 have e1:adP 0 1 n 1=n:=by unfold adP; rw [if_pos hK,hN,hH,Int.ediv_one]
 have e2:adQ 0 1 n 1=1:=by unfold adQ; rw [if_pos hK,hD,hH]; rfl
 have e3:adC 0 1 n 1=0:=if_pos hK
 have m1:mkP 1 2=1∧mkQ 1 2=2:=⟨(half_odd 0).1,(half_odd 0).2.1⟩
 have ha:muA n 2=1:=by unfold muA; rcases h with rfl | rfl <;> rfl
 have hb:muA 1 1=1:=rfl
 have uN:muN n 1 1 2=n:=by unfold muN; rw [ha,hb]; rcases h with rfl | rfl <;> decide
 have uD:muD n 1 1 2=2:=by unfold muD; rw [ha,hb]; decide
 have uK:muK n 1 1 2:=by
  unfold muK
  rw [uN,uD]
  refine ⟨sm_lim ?_,sm_lim (by decide)⟩
  rcases h with rfl | rfl <;> decide
 have d1:dvP n 1 2 1=n:=by unfold dvP; rw [if_neg (by decide),m1.1,m1.2,muP,if_pos uK,uN]
 have d2:dvQ n 1 2 1=2:=by unfold dvQ; rw [if_neg (by decide),m1.1,m1.2,muQ,if_pos uK,uD]
 have d3:dvC n 1 2 1=0:=by unfold dvC; rw [if_neg (by decide),m1.1,m1.2]; exact if_pos uK
 exact ⟨by unfold mdC; rw [if_pos e3,e1,e2,d3],by unfold mdP; rw [if_pos e3,e1,e2,d1],by unfold mdQ; rw [if_pos e3,e1,e2,d2]⟩
theorem me_vals:meX 0 1 1 1 0 1 3 1=1∧meXd 0 1 1 1 0 1 3 1=2∧meY 0 1 1 1 0 1 3 1=3∧meYd 0 1 1 1 0 1 3 1=2∧meC 0 1 1 1 0 1 3 1=0:=by
 have h1:=mid_half (n:=1) (.inl rfl)
 have h3:=mid_half (n:=3) (.inr rfl)
 have hk:meK 0 1 1 1 0 1 3 1:=⟨h1.1,h3.1⟩
 exact ⟨by unfold meX; rw [if_pos hk,h1.2.1],by unfold meXd; rw [if_pos hk,h1.2.2],by unfold meY; rw [if_pos hk,h3.2.1],by unfold meYd; rw [if_pos hk,h3.2.2],by unfold meC; rw [if_pos h1.1,h3.1]⟩
theorem t5_1:decI 1=[49]:=by
 rw [decI,if_neg (by decide),show (1:Int).natAbs=1 from rfl,dec_lt (by decide)]
 rfl
theorem t5_2:decI 2=[50]:=by
 rw [decI,if_neg (by decide),show (2:Int).natAbs=2 from rfl,dec_lt (by decide)]
 rfl
theorem t5_3:decI 3=[51]:=by
 rw [decI,if_neg (by decide),show (3:Int).natAbs=3 from rfl,dec_lt (by decide)]
 rfl
theorem t_half:fracT 1 2=[49,47,50]∧fracT 3 2=[51,47,50]:=by
 unfold fracT
 rw [if_neg (by decide),if_neg (by decide),t5_1,t5_2,t5_3]
 exact ⟨rfl,rfl⟩
theorem rd_vals:rdX 1 2 3 2=0∧rdY 1 2 3 2=1∧rdE 1 2 3 2=0:=by decide
theorem pc_vals:pcV 1 1 5 1 2 1 0 1 = -1:=by decide
set_option maxRecDepth 100000 in
set_option maxHeartbeats 3200000 in
theorem plives_any (w:World):Calls Tryz.prog 17 #[] w fun e w'=>e=.returned (.bool true)∧Below w.heap.size w w':=by
 go_enter Tryz.func17,Tryz.ntmps17
 go_wp2_with fail
 refine (pof_any 0 0 w (by decide) (by decide)).mono ?_
 rintro e w1 ⟨s0,A0,n0,c0,t0,B0,m0,d0,s1,A1,n1,c1,t1,B1,m1,d1,rfl,h0,h1,hb1⟩
 have H0:=hJ h0
 have H1:=hJ h1
 have aH:=hJ hb1
 clear h0 h1 hb1
 go_wp2_with fail
 refine (pof_any 1 3 w1 (by decide) (by decide)).mono ?_
 rintro e w2 ⟨s2,A2,n2,c2,t2,B2,m2,d2,s3,A3,n3,c3,t3,B3,m3,d3,rfl,h0,h1,hb2⟩
 have H2:=hJ h0
 have H3:=hJ h1
 have H02:=hJ (H0.out.new hb2)
 have H12:=hJ (H1.out.new hb2)
 have aI:=hJ (bt aH.out hb2)
 clear h0 h1 hb2 H0 H1
 go_wp2_with fail
 refine (pmid_any 0 1 0 1 1 1 3 1 s0 A0 n0 c0 t0 B0 m0 d0 s1 A1 n1 c1 t1 B1 m1 d1 s2 A2 n2 c2 t2 B2 m2 d2 s3 A3 n3 c3 t3 B3 m3 d3 w2 H02.out H12.out H2.out H3.out ⟨⟨⟨by decide,sm_lim (by decide),sm_lim (by decide)⟩,⟨by decide,sm_lim (by decide),sm_lim (by decide)⟩⟩,⟨by decide,sm_lim (by decide),sm_lim (by decide)⟩,⟨by decide,sm_lim (by decide),sm_lim (by decide)⟩⟩).mono ?_
 rw [me_vals.1,me_vals.2.1,me_vals.2.2.1,me_vals.2.2.2.1,me_vals.2.2.2.2]
 clear H02 H12 H2 H3
 rintro e w3 ⟨s4,A4,n4,c4,t4,B4,m4,d4,s5,A5,n5,c5,t5,B5,m5,d5,rfl,h0,h1,hb3⟩
 obtain ⟨x3,aB⟩:=nmz (w3.alloc (.cells #[.bool s4,.slice A4 n4 c4,.bool t4,.slice B4 m4 d4,.bool s5,.slice A5 n5 c5,.bool t5,.slice B5 m5 d5] 29))
 have aC:=hJ (show Below w3.heap.size w3 x3 by rw [←aB]; exact (Below.refl _ _).alloc (Nat.le_refl _) _)
 have aD:=hJ (show P8 29 x3 w3.heap.size (.bool s4) (.slice A4 n4 c4) (.bool t4) (.slice B4 m4 d4) (.bool s5) (.slice A5 n5 c5) (.bool t5) (.slice B5 m5 d5) by rw [←aB]; exact P8.lit _ _ _ _ _ _ _ _ _ _)
 have H4:=hJ (h0.new aC.out)
 have H5:=hJ (h1.new aC.out)
 have aJ:=hJ (bt aI.out (bt hb3 aC.out))
 clear h0 h1 hb3
 obtain ⟨⟨p0,p1,p2,p3⟩,p4,p5,p6,p7⟩:=aD.out.cells
 go_wp2_with fail
 clear aB
 refine (pround_any 1 2 3 2 s4 A4 n4 c4 t4 B4 m4 d4 s5 A5 n5 c5 t5 B5 m5 d5 x3 H4.out H5.out ⟨⟨by decide,sm_lim (by decide),sm_lim (by decide)⟩,⟨by decide,sm_lim (by decide),sm_lim (by decide)⟩⟩).mono ?_
 rw [rd_vals.1,rd_vals.2.1,rd_vals.2.2]
 rintro e w4 ⟨rfl,hb4⟩
 obtain ⟨x4,aF⟩:=nmz (w4.alloc (.cells #[.int .i64 0,.int .i64 1] 71))
 have aK:=hJ (show Below w4.heap.size w4 x4 by rw [←aF]; exact (Below.refl _ _).alloc (Nat.le_refl _) _)
 have aL:=hJ (show P2 71 x4 w4.heap.size (.int .i64 0) (.int .i64 1) by rw [←aF]; exact P2.lit _ _ _ _)
 have aA:=hJ (bt hb4 aK.out)
 have aG:=hJ (aD.out.new aA.out)
 have H44:=hJ (H4.out.new aA.out)
 have H54:=hJ (H5.out.new aA.out)
 have aM:=hJ (bt aJ.out aA.out)
 clear hb4 p0 p1 p2 p3 p4 p5 p6 p7 H4 H5 aD
 obtain ⟨⟨p0,p1,p2,p3⟩,p4,p5,p6,p7⟩:=aG.out.cells
 go_wp2_with fail
 clear aF
 refine (fstring_any 1 2 s4 t4 A4 B4 n4 c4 m4 d4 x4 H44.out (sm_lim (by decide)) (sm_lim (by decide)) (by decide)).mono ?_
 rw [t_half.1]
 rintro e w5 ⟨rfl,hb5⟩
 have aN:=hJ (bt aM.out hb5)
 have aO:=hJ (aG.out.new hb5)
 have aR:=hJ (aL.out.new hb5)
 have H55:=hJ (H54.out.new hb5)
 clear hb5 p0 p1 p2 p3 p4 p5 p6 p7
 obtain ⟨⟨p0,p1,p2,p3⟩,p4,p5,p6,p7⟩:=aO.out.cells
 go_wp2_with fail
 refine (fstring_any 3 2 s5 t5 A5 B5 n5 c5 m5 d5 w5 H55.out (sm_lim (by decide)) (sm_lim (by decide)) (by decide)).mono ?_
 rw [t_half.2]
 rintro e w6 ⟨rfl,hb6⟩
 have aS:=hJ (bt aN.out hb6)
 have aT:=hJ (aR.out.new hb6)
 clear hb6 p0 p1 p2 p3 p4 p5 p6 p7
 obtain ⟨q0,q1⟩:=aT.out.cells
 go_wp2_with fail
 refine (pof_any 1 5 w6 (by decide) (by decide)).mono ?_
 rintro e w7 ⟨s6,A6,n6,c6,t6,B6,m6,d6,s7,A7,n7,c7,t7,B7,m7,d7,rfl,h0,h1,hb7⟩
 have H6:=hJ h0
 have H7:=hJ h1
 have aU:=hJ (bt aS.out hb7)
 clear h0 h1 hb7
 go_wp2_with fail
 refine (pof_any 2 0 w7 (by decide) (by decide)).mono ?_
 rintro e w8 ⟨s8,A8,n8,c8,t8,B8,m8,d8,s9,A9,n9,c9,t9,B9,m9,d9,rfl,h0,h1,hb8⟩
 have H8:=hJ h0
 have H9:=hJ h1
 have H68:=hJ (H6.out.new hb8)
 have H78:=hJ (H7.out.new hb8)
 have aV:=hJ (bt aU.out hb8)
 clear h0 h1 hb8
 go_wp2_with fail
 refine (ptcompare_any 1 1 5 1 2 1 0 1 s6 A6 n6 c6 t6 B6 m6 d6 s7 A7 n7 c7 t7 B7 m7 d7 s8 A8 n8 c8 t8 B8 m8 d8 s9 A9 n9 c9 t9 B9 m9 d9 w8 H68.out H78.out H8.out H9.out ⟨⟨by decide,sm_lim (by decide),sm_lim (by decide)⟩,⟨by decide,sm_lim (by decide),sm_lim (by decide)⟩,⟨by decide,sm_lim (by decide),sm_lim (by decide)⟩,⟨by decide,sm_lim (by decide),sm_lim (by decide)⟩⟩).mono ?_
 rw [pc_vals]
 rintro e w9 ⟨rfl,hb9⟩
 have aW:=hJ (bt aV.out hb9)
 clear hb9
 go_wp2
 go_ret
 exact ⟨rfl,aW.out⟩
end Go.Proofs.YtbgfmegepekapaaGreat


namespace Go.Proofs.YtbgfmegepekapaaGreat
open Go.RowKit
attribute [local go_sem ↓] Go.wp_at_zero Go.wp_at_succ
set_option maxRecDepth 100000 in
set_option maxHeartbeats 6400000 in
theorem real_any (X Y D:Int) (w:World) (hx:(Lit.int .i64 X).wf=true) (hy:(Lit.int .i64 Y).wf=true) (hd:(Lit.int .i64 D).wf=true) :
  Calls Tryz.prog 6 #[.agg #[.int .i64 X,.int .i64 Y,.int .i64 D]] w (RetTw (mkP X D) (mkQ X D) (mkP Y D) (mkQ Y D) w):=by
 have HI:=hJ (And.intro hx (And.intro hy hd))
 clear hx hy hd
 obtain ⟨W,hW⟩:∃ W,(w.alloc (.cells #[.int .i64 X,.int .i64 Y,.int .i64 D] 32)).alloc (.cells #[.bool false,.slice none 0 0,.bool false,.slice none 0 0,.bool false,.slice none 0 0,.bool false,.slice none 0 0] 29)=W:=⟨_,rfl⟩
 have HK:=hJ (show Below w.heap.size w W by rw [←hW]; exact ((Below.refl _ w).alloc (Nat.le_refl _) _).alloc (by simp) _)
 have HA:=hJ (show P3 32 W w.heap.size (.int .i64 X) (.int .i64 Y) (.int .i64 D) by rw [←hW]; exact (P3.lit w _ _ _ _).new ((Below.refl _ _).alloc (Nat.le_refl _) _))
 have HZ:=hJ (show P8 29 W (w.heap.size+1) (.bool false) (.slice none 0 0) (.bool false) (.slice none 0 0) (.bool false) (.slice none 0 0) (.bool false) (.slice none 0 0) by
  rw [←hW]
  have h0:=P8.lit (w.alloc (.cells #[.int .i64 X,.int .i64 Y,.int .i64 D] 32)) 29 (.bool false) (.slice none 0 0) (.bool false) (.slice none 0 0) (.bool false) (.slice none 0 0) (.bool false) (.slice none 0 0)
  rw [World.size_alloc] at h0
  exact h0)
 obtain ⟨h,hh⟩:∃ h,w.heap.size=h:=⟨_,rfl⟩
 rw [hh] at HA HZ
 have HH:=hJ hh
 obtain ⟨a0,a1,a2⟩:=HA.out.cells
 go_enter Tryz.func6,Tryz.ntmps6
 go_wp2_with fail
 clear hW hh
 refine (fof_any X D W HI.out.1 HI.out.2.2).mono ?_
 rintro e w1 ⟨s0,A0,n0,c0,t0,B0,m0,d0,rfl,hr1,hb1⟩
 obtain ⟨w2,hw2⟩:=nmz (w1.alloc (.cells #[.bool s0,.slice A0 n0 c0,.bool t0,.slice B0 m0 d0] 27))
 have aF:=hJ (show Below w1.heap.size w1 w2 by rw [←hw2]; exact (Below.refl _ _).alloc (Nat.le_refl _) _)
 have aC:=hJ (show P4 27 w2 w1.heap.size (.bool s0) (.slice A0 n0 c0) (.bool t0) (.slice B0 m0 d0) by rw [←hw2]; exact P4.lit _ _ _ _ _ _)
 have H0:=hJ (hr1.new aF.out)
 have aD:=hJ (bt hb1 aF.out)
 have aG:=hJ (HA.out.new aD.out)
 have aH:=hJ (HZ.out.new aD.out)
 have aI:=hJ (bt HK.out aD.out)
 obtain ⟨g0,hg0⟩:∃ g,w1.heap.size=g:=⟨_,rfl⟩
 rw [hg0] at aC
 clear hr1 hb1 a0 a1 a2
 obtain ⟨a0,a1,a2⟩:=aG.out.cells
 go_wp2_with fail
 clear hw2 hg0
 refine (fof_any Y D w2 HI.out.2.1 HI.out.2.2).mono ?_
 rintro e w3 ⟨s1,A1,n1,c1,t1,B1,m1,d1,rfl,hr1,hb1⟩
 obtain ⟨w4,hw4⟩:=nmz (w3.alloc (.cells #[.bool s1,.slice A1 n1 c1,.bool t1,.slice B1 m1 d1] 27))
 have aJ:=hJ (show Below w3.heap.size w3 w4 by rw [←hw4]; exact (Below.refl _ _).alloc (Nat.le_refl _) _)
 have aK:=hJ (show P4 27 w4 w3.heap.size (.bool s1) (.slice A1 n1 c1) (.bool t1) (.slice B1 m1 d1) by rw [←hw4]; exact P4.lit _ _ _ _ _ _)
 have H1:=hJ (hr1.new aJ.out)
 have aB:=hJ (bt hb1 aJ.out)
 have H04:=hJ (H0.out.new aB.out)
 have aM:=hJ (aC.out.new aB.out)
 have aA:=hJ (aH.out.new aB.out)
 have aN:=hJ (bt aI.out aB.out)
 obtain ⟨g1,hg1⟩:∃ g,w3.heap.size=g:=⟨_,rfl⟩
 rw [hg1] at aK
 clear hr1 hb1 a0 a1 a2 H0 aC aH aI HZ HA aG
 obtain ⟨p0,p1,p2,p3⟩:=aM.out.cells
 obtain ⟨q0,q1,q2,q3⟩:=aK.out.cells
 obtain ⟨⟨z0,z1,z2,z3⟩,z4,z5,z6,z7⟩:=aA.out.cells
 have f0:=aA.out.frozen 0
 have f1:=aA.out.frozen 1
 have f2:=aA.out.frozen 2
 have f3:=aA.out.frozen 3
 have f4:=aA.out.frozen 4
 have f5:=aA.out.frozen 5
 have f6:=aA.out.frozen 6
 have f7:=aA.out.frozen 7
 have aL:=hJ (show NoW w4 (h+1) from noW_of aA.out rfl)
 go_wp2_with fail
 exact bodyPost_ret (results_cell_row rfl _ _ _ _ _ _ _ rfl (aA.out.all (.bool s0) (.slice A0 n0 c0) (.bool t0) (.slice B0 m0 d0) (.bool s1) (.slice A1 n1 c1) (.bool t1) (.slice B1 m1 d1)) Tryz.underlying29 rfl TP_size) rfl ⟨s0,A0,n0,c0,t0,B0,m0,d0,s1,A1,n1,c1,t1,B1,m1,d1,rfl,PF.apart H04.out (kp8 w4 (h+1) _ _ _ _ _ _ _ _) aL.out,PF.apart H1.out (kp8 w4 (h+1) _ _ _ _ _ _ _ _) aL.out,below8 aN.out (by rw [HH.out]; omega) _ _ _ _ _ _ _ _⟩
end Go.Proofs.YtbgfmegepekapaaGreat
