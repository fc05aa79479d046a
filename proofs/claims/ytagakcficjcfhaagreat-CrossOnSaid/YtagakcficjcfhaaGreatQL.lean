/- Contracts of the program's points: nearest, Round. Conditions: as each statement has them. -/
import Derived.Test.YtagakcficjcfhaaGreatPF
import Derived.Test.YtagakcficjcfhaaGreatAE
import Derived.Test.YtagakcficjcfhaaGreatPM
import Derived.Test.YtagakcficjcfhaaGreatFF
namespace Go.Proofs.YtagakcficjcfhaaGreat
set_option maxRecDepth 100000
set_option maxHeartbeats 12800000
open Go.RowKit
attribute [local go_sem ↓] Go.wp_at_zero Go.wp_at_succ
theorem good_any (x y:Int) (w:World) :
  Calls Tryz.prog 54 #[.agg #[.int .i64 x,.int .i64 y]] w fun e w'=>e=.returned (.int .i64 (vdC x y))∧Below w.heap.size w w':=by
 obtain ⟨W,hW⟩:∃ W,w.alloc (.cells #[.int .i64 x,.int .i64 y] 23)=W:=⟨_,rfl⟩
 have HK:=hJ (show Below w.heap.size w W by rw [←hW]; exact (Below.refl _ w).alloc (Nat.le_refl _) _)
 have HA:=hJ (show P2 23 W w.heap.size (.int .i64 x) (.int .i64 y) by rw [←hW]; exact P2.lit _ _ _ _)
 obtain ⟨a0,a1⟩:=HA.out.cells
 by_cases h1:x < -1073741824
 ·have HV:=hJ (show vdC x y=5 from if_neg (by omega))
  go_enter Tryz.func54,Tryz.ntmps54
  go_wp2
  go_ret
  exact ⟨by rw [HV.out]; rfl,HK.out⟩
 by_cases h2:1073741824 < x
 ·have HV:=hJ (show vdC x y=5 from if_neg (by omega))
  go_enter Tryz.func54,Tryz.ntmps54
  go_wp2
  go_ret
  exact ⟨by rw [HV.out]; rfl,HK.out⟩
 by_cases h3:y < -1073741824
 ·have HV:=hJ (show vdC x y=5 from if_neg (by omega))
  go_enter Tryz.func54,Tryz.ntmps54
  go_wp2
  go_ret
  exact ⟨by rw [HV.out]; rfl,HK.out⟩
 by_cases h4:1073741824 < y
 ·have HV:=hJ (show vdC x y=5 from if_neg (by omega))
  go_enter Tryz.func54,Tryz.ntmps54
  go_wp2
  go_ret
  exact ⟨by rw [HV.out]; rfl,HK.out⟩
 ·have HV:=hJ (show vdC x y=0 from if_pos (by omega))
  go_enter Tryz.func54,Tryz.ntmps54
  go_wp2
  go_ret
  exact ⟨by rw [HV.out]; rfl,HK.out⟩
/-- n modulo most, never negative. -/
def aroundZ (v n:Int):Int:=(if v < 0 then -(v+1) else v) % n
theorem aroundZ_in (v:Int) {n:Int} (h:1≤n):0≤aroundZ v n∧aroundZ v n < n:=⟨Int.emod_nonneg _ (by omega),Int.emod_lt_of_pos _ (by omega)⟩
theorem i64_in {x:Int} (h:(Lit.int .i64 x).wf=true) : -9223372036854775808≤x∧x≤9223372036854775807:=by simpa [Lit.wf,IntKind.min,IntKind.max,IntKind.signed,IntKind.bits] using h
theorem aroundz_any (v n:Int) (w:World) (h1:1≤n) (hn:n≤1099511627776) (hv:(Lit.int .i64 v).wf=true) :
  Calls Tryz.prog 35 #[.int .i64 v,.int .i64 n] w fun e w'=>e=.returned (.int .i64 (aroundZ v n))∧w=w':=by
 obtain ⟨hb1,hb2⟩:=i64_in hv
 unfold aroundZ
 clear hv
 by_cases h:v < 0
 ·rw [if_pos h,←Int.tmod_eq_emod_of_nonneg (show 0 ≤ -(v+1) by omega),Int.neg_tmod]
  go_enter Tryz.func35,Tryz.ntmps35
  go_wp2
  go_ret
  exact ⟨rfl,rfl⟩
 ·rw [if_neg h]
  have h0:0≤v:=by omega
  go_enter Tryz.func35,Tryz.ntmps35
  go_wp2
  go_ret
  exact ⟨rfl,rfl⟩
theorem G_size:(Tryz.prog.info? 23).map (·.size)=some 2:=by kernel_rfl
/-- A coordinate of Grid. -/
def Co (x:Int):Prop:=0≤x∧x≤32
theorem grid_any (n:Int) (w:World) (hn:(Lit.int .i64 n).wf=true) :
  Calls Tryz.prog 32 #[.int .i64 n] w fun e w'=>∃ x y,e=.returned (.agg #[.int .i64 x,.int .i64 y])∧Co x∧Co y∧Below w.heap.size w w':=by
 have HN:=hJ hn
 clear hn
 obtain ⟨W,hW⟩:∃ W,w.alloc (.cells #[.int .i64 0,.int .i64 0] 23)=W:=⟨_,rfl⟩
 have HK:=hJ (show Below w.heap.size w W by rw [←hW]; exact (Below.refl _ w).alloc (Nat.le_refl _) _)
 have HZ:=hJ (show P2 23 W w.heap.size (.int .i64 0) (.int .i64 0) by rw [←hW]; exact P2.lit _ _ _ _)
 obtain ⟨z0,z1⟩:=HZ.out.cells
 have f0:=HZ.out.frozen 0
 have f1:=HZ.out.frozen 1
 go_enter Tryz.func32,Tryz.ntmps32
 go_wp2_with fail
 refine (aroundz_any n 1048576 W (by decide) (by decide) HN.out).mono ?_
 rintro e w1 ⟨rfl,rfl⟩
 obtain ⟨k,hk⟩:∃ k,aroundZ n 1048576=k:=⟨_,rfl⟩
 obtain ⟨hk0,hk1⟩:=aroundZ_in n (n:=1048576) (by decide)
 rw [hk] at hk0 hk1 ⊢
 clear hk
 by_cases h3:k % 3=0
 ·have e1:IntKind.i64.wrap (k / 3)=k / 3:=IntWalk.i64_in _ (by omega)
  have e2:IntKind.i64.wrap (k / 15)=k / 15:=IntWalk.i64_in _ (by omega)
  have e3:IntKind.i64.wrap (k / 3 % 5)=k / 3 % 5:=IntWalk.i64_in _ (by omega)
  have e4:IntKind.i64.wrap (k / 15 % 5)=k / 15 % 5:=IntWalk.i64_in _ (by omega)
  have g1:0≤k / 3:=by omega
  have g2:0≤k / 15:=by omega
  have e5:IntKind.i64.wrap (8*(k / 3 % 5))=8*(k / 3 % 5):=IntWalk.i64_in _ (by omega)
  have e6:IntKind.i64.wrap (8*(k / 15 % 5))=8*(k / 15 % 5):=IntWalk.i64_in _ (by omega)
  have e7:(k % 3 == 0)=true:=by simp [h3]
  have HR:=hJ (show Co (8*(k / 3 % 5))∧Co (8*(k / 15 % 5)) from ⟨⟨by omega,by omega⟩,by omega,by omega⟩)
  clear h3
  go_wp2
  exact bodyPost_ret (results_cell_row rfl _ _ _ _ _ _ _ rfl (HZ.out.all (.int .i64 (8*(k / 3 % 5))) (.int .i64 (8*(k / 15 % 5)))) Tryz.underlying23 rfl G_size) rfl ⟨_,_,rfl,HR.out.1,HR.out.2,below_box HK.out (by omega) _ _⟩
 ·have e1:IntKind.i64.wrap (k / 3)=k / 3:=IntWalk.i64_in _ (by omega)
  have e2:IntKind.i64.wrap (k / 99)=k / 99:=IntWalk.i64_in _ (by omega)
  have e3:IntKind.i64.wrap (k / 3 % 33)=k / 3 % 33:=IntWalk.i64_in _ (by omega)
  have e4:IntKind.i64.wrap (k / 99 % 33)=k / 99 % 33:=IntWalk.i64_in _ (by omega)
  have g1:0≤k / 3:=by omega
  have g2:0≤k / 99:=by omega
  have e7:(k % 3 == 0)=false:=by simp [h3]
  have HR:=hJ (show Co (k / 3 % 33)∧Co (k / 99 % 33) from ⟨⟨by omega,by omega⟩,by omega,by omega⟩)
  clear h3
  go_wp2
  exact bodyPost_ret (results_cell_row rfl _ _ _ _ _ _ _ rfl (HZ.out.all (.int .i64 (k / 3 % 33)) (.int .i64 (k / 99 % 33))) Tryz.underlying23 rfl G_size) rfl ⟨_,_,rfl,HR.out.1,HR.out.2,below_box HK.out (by omega) _ _⟩
/-- Neither coordinate is greater. -/
def ngV (p q u v p' q' u' v':Int):Bool:=decide (p*q'≤p'*q∧u*v'≤u'*v)
theorem cmpI_gt {a b:Int} (h:a≤b):¬ 0 < cmpI a b:=by unfold cmpI; split <;> (try split) <;> omega
theorem cmpI_ng {a b:Int} (h:¬ 0 < cmpI a b):a≤b:=by
 rcases cmpI_cases a b with ⟨h1,_⟩ | ⟨h1,_⟩ | ⟨_,h2⟩
 ·omega
 ·omega
 ·rw [h2] at h; exact absurd (by decide) h
theorem notgrf_any (p q u v p' q' u' v':Int) (s0:Bool) (A0:Option Addr) (n0 c0:Nat) (t0:Bool) (B0:Option Addr) (m0 d0:Nat) (s1:Bool) (A1:Option Addr) (n1 c1:Nat) (t1:Bool) (B1:Option Addr) (m1 d1:Nat) (s2:Bool) (A2:Option Addr) (n2 c2:Nat) (t2:Bool) (B2:Option Addr) (m2 d2:Nat) (s3:Bool) (A3:Option Addr) (n3 c3:Nat) (t3:Bool) (B3:Option Addr) (m3 d3:Nat) (w:World) (h0:PF w s0 A0 n0 c0 t0 B0 m0 d0 p q) (h1:PF w s1 A1 n1 c1 t1 B1 m1 d1 u v) (h2:PF w s2 A2 n2 c2 t2 B2 m2 d2 p' q') (h3:PF w s3 A3 n3 c3 t3 B3 m3 d3 u' v') (hl:(0 < q∧p.natAbs < lim∧q.natAbs < lim)∧(0 < v∧u.natAbs < lim∧v.natAbs < lim)∧(0 < q'∧p'.natAbs < lim∧q'.natAbs < lim)∧(0 < v'∧u'.natAbs < lim∧v'.natAbs < lim)) :
  Calls Tryz.prog 80 #[.agg #[.bool s0,.slice A0 n0 c0,.bool t0,.slice B0 m0 d0,.bool s1,.slice A1 n1 c1,.bool t1,.slice B1 m1 d1],.agg #[.bool s2,.slice A2 n2 c2,.bool t2,.slice B2 m2 d2,.bool s3,.slice A3 n3 c3,.bool t3,.slice B3 m3 d3],.func (.func 65) #[] #[]] w fun e w'=>e=.returned (.bool (ngV p q u v p' q' u' v'))∧Below w.heap.size w w':=by
 have HL:=hJ hl
 clear hl
 obtain ⟨C,hC⟩:∃ c,ngV p q u v p' q' u' v'=c:=⟨_,rfl⟩
 have HC:=hJ hC
 rw [hC]
 clear hC
 obtain ⟨W,hW⟩:∃ W,(w.alloc (.cells #[.bool s0,.slice A0 n0 c0,.bool t0,.slice B0 m0 d0,.bool s1,.slice A1 n1 c1,.bool t1,.slice B1 m1 d1] 101)).alloc (.cells #[.bool s2,.slice A2 n2 c2,.bool t2,.slice B2 m2 d2,.bool s3,.slice A3 n3 c3,.bool t3,.slice B3 m3 d3] 101)=W:=⟨_,rfl⟩
 have HK:=hJ (show Below w.heap.size w W by rw [←hW]; exact ((Below.refl _ w).alloc (Nat.le_refl _) _).alloc (by simp) _)
 have HA:=hJ (show P8 101 W w.heap.size (.bool s0) (.slice A0 n0 c0) (.bool t0) (.slice B0 m0 d0) (.bool s1) (.slice A1 n1 c1) (.bool t1) (.slice B1 m1 d1) by rw [←hW]; exact (P8.lit w _ _ _ _ _ _ _ _ _).new ((Below.refl _ _).alloc (Nat.le_refl _) _))
 have HB:=hJ (show P8 101 W (w.heap.size+1) (.bool s2) (.slice A2 n2 c2) (.bool t2) (.slice B2 m2 d2) (.bool s3) (.slice A3 n3 c3) (.bool t3) (.slice B3 m3 d3) by
  rw [←hW]
  have h0:=P8.lit (w.alloc (.cells #[.bool s0,.slice A0 n0 c0,.bool t0,.slice B0 m0 d0,.bool s1,.slice A1 n1 c1,.bool t1,.slice B1 m1 d1] 101)) 101 (.bool s2) (.slice A2 n2 c2) (.bool t2) (.slice B2 m2 d2) (.bool s3) (.slice A3 n3 c3) (.bool t3) (.slice B3 m3 d3)
  rw [World.size_alloc] at h0
  exact h0)
 have H0:=hJ (h0.new HK.out)
 have H1:=hJ (h1.new HK.out)
 have H2:=hJ (h2.new HK.out)
 have H3:=hJ (h3.new HK.out)
 clear h0 h1 h2 h3
 obtain ⟨h,hh⟩:∃ h,w.heap.size=h:=⟨_,rfl⟩
 rw [hh] at HA HB
 go_enter Tryz.func80,Tryz.ntmps80
 go_wp2_with fail
 clear hW hh
 go_loopw [8] (fun tv wr=>∃ i:Nat,i≤2∧tv=.int .i64 (i:Int)∧P8 101 wr h (.bool s0) (.slice A0 n0 c0) (.bool t0) (.slice B0 m0 d0) (.bool s1) (.slice A1 n1 c1) (.bool t1) (.slice B1 m1 d1)∧P8 101 wr (h+1) (.bool s2) (.slice A2 n2 c2) (.bool t2) (.slice B2 m2 d2) (.bool s3) (.slice A3 n3 c3) (.bool t3) (.slice B3 m3 d3)∧PF wr s0 A0 n0 c0 t0 B0 m0 d0 p q∧PF wr s1 A1 n1 c1 t1 B1 m1 d1 u v∧PF wr s2 A2 n2 c2 t2 B2 m2 d2 p' q'∧PF wr s3 A3 n3 c3 t3 B3 m3 d3 u' v'∧Hid ((0 < i→p*q'≤p'*q)∧(1 < i→u*v'≤u'*v))∧Below w.heap.size w wr) (fun tv _=>2 - (intOf tv).toNat)
 case atStart=>exact ⟨0,by omega,rfl,HA.out,HB.out,H0.out,H1.out,H2.out,H3.out,hJ ⟨fun h=>by omega,fun h=>by omega⟩,HK.out⟩
 case round =>
  clear HA HB HK H0 H1 H2 H3
  obtain ⟨i,hi,rfl,ha,hb,h0,h1,h2,h3,hle,hbel⟩:=hrel
  have HA:=hJ ha
  have HB:=hJ hb
  have H0:=hJ h0
  have H1:=hJ h1
  have H2:=hJ h2
  have H3:=hJ h3
  have aG:=hJ hbel
  clear ha hb h0 h1 h2 h3 hbel
  have hi3:i=0∨i=1∨i=2:=by omega
  rcases hi3 with rfl | rfl | rfl
  ·have HS:Hid (∀ w',Below wr.heap.size wr w'→(fun w':World=>w'.cell? ⟨h,0,none⟩=some (.bool s0)∧w'.cell? ⟨h,1,none⟩=some (.slice A0 n0 c0)∧w'.cell? ⟨h,2,none⟩=some (.bool t0)∧w'.cell? ⟨h,3,none⟩=some (.slice B0 m0 d0)∧w'.cell? ⟨(h+1),0,none⟩=some (.bool s2)∧w'.cell? ⟨(h+1),1,none⟩=some (.slice A2 n2 c2)∧w'.cell? ⟨(h+1),2,none⟩=some (.bool t2)∧w'.cell? ⟨(h+1),3,none⟩=some (.slice B2 m2 d2)∧Below wr.heap.size wr w') w'):=hJ (fun w' hb=>⟨(HA.out.new hb).cells.1.1,(HA.out.new hb).cells.1.2.1,(HA.out.new hb).cells.1.2.2.1,(HA.out.new hb).cells.1.2.2.2,(HB.out.new hb).cells.1.1,(HB.out.new hb).cells.1.2.1,(HB.out.new hb).cells.1.2.2.1,(HB.out.new hb).cells.1.2.2.2,hb⟩)
   have aI:=hJ (Below.refl wr.heap.size wr)
   obtain ⟨k,hk0⟩:∃ k,cmpI (p*q') (p'*q)=k:=⟨_,rfl⟩
   have aD:=hJ hk0
   clear hk0
   go_wp2_with fail
   obtain ⟨v0,hv0⟩:=nmz (World.drew wr)
   have aB:=hJ (show Below wr.heap.size wr v0 by rw [←hv0]; exact (Below.refl _ _).drew)
   have aF:=hJ (bt aI.out aB.out)
   have X_0:=hJ ((H0.out).new aB.out)
   have Y_0:=hJ ((H2.out).new aB.out)
   refine wp_region_held_drew (S:=(fun w':World=>w'.cell? ⟨h,0,none⟩=some (.bool s0)∧w'.cell? ⟨h,1,none⟩=some (.slice A0 n0 c0)∧w'.cell? ⟨h,2,none⟩=some (.bool t0)∧w'.cell? ⟨h,3,none⟩=some (.slice B0 m0 d0)∧w'.cell? ⟨(h+1),0,none⟩=some (.bool s2)∧w'.cell? ⟨(h+1),1,none⟩=some (.slice A2 n2 c2)∧w'.cell? ⟨(h+1),2,none⟩=some (.bool t2)∧w'.cell? ⟨(h+1),3,none⟩=some (.slice B2 m2 d2)∧Below wr.heap.size wr w')) (by kernel_rfl) ?_ (fun hHeld=>?_)
   ·rw [hv0]
    exact HS.out _ aF.out
   rw [hv0] at hHeld ⊢
   clear hv0 aB
   refine tq 0 ?_
   refine tq 1 ?_
   refine tq 2 ?_
   refine tq 3 ?_
   refine tq 4 ?_
   refine tq 5 ?_
   refine tq 6 ?_
   try simp only [PT]
   refine ryy [7] ?_
   refine .cons rfl (fun K hK=>?_) .nil
   go_simp
   go_at_call 65
   refine (fcompare_any p q p' q' s0 t0 s2 t2 A0 B0 A2 B2 n0 c0 m0 d0 n2 c2 m2 d2 v0 (X_0.out) (Y_0.out) HL.out.1.1 HL.out.2.2.1.1 HL.out.1.2.1 HL.out.1.2.2 HL.out.2.2.1.2.1 HL.out.2.2.1.2.2).mono ?_
   rw [aD.out]
   rintro e v1 ⟨rfl,hk⟩
   have aC:=hJ hk
   go_wp2_with fail
   have aH:=hJ (bt aF.out aC.out)
   have X_1:=hJ ((X_0.out).new aC.out)
   have Y_1:=hJ ((Y_0.out).new aC.out)
   clear hHeld
   refine hK.out _ _ (HS.out _ aH.out) (fun hHeld=>?_)
   clear hK K hk aC aF X_0 Y_0
   refine tq 8 ?_
   try simp only [PT]
   refine wpAnyH_done (by kernel_rfl) ?_ _
   clear hHeld
   have aA:=hJ aH.out
   by_cases hk:0 < k
   ·have HE:=hJ (show false=C by rw [←HC.out]; exact (decide_eq_false (fun hn=>by have:=cmpI_gt (hn.1); rw [aD.out] at this; exact this hk)).symm)
    go_wp2
    go_ret
    exact ⟨by rw [←HE.out]; rfl,bt aG.out aA.out⟩
   have HE:=hJ (show p*q'≤p'*q from cmpI_ng (by rw [aD.out]; exact hk))
   have hk':k≤0:=by omega
   clear hk
   go_wp2
   go_roundw
   case rel=>exact ⟨1,by omega,by go_num,HA.out.new aA.out,HB.out.new aA.out,H0.out.new aA.out,H1.out.new aA.out,H2.out.new aA.out,H3.out.new aA.out,hJ ⟨fun _=>HE.out,fun _=>by omega⟩,bt aG.out aA.out⟩
   case measure=>simp [intOf]
  ·have HS:Hid (∀ w',Below wr.heap.size wr w'→(fun w':World=>w'.cell? ⟨h,4,none⟩=some (.bool s1)∧w'.cell? ⟨h,5,none⟩=some (.slice A1 n1 c1)∧w'.cell? ⟨h,6,none⟩=some (.bool t1)∧w'.cell? ⟨h,7,none⟩=some (.slice B1 m1 d1)∧w'.cell? ⟨(h+1),4,none⟩=some (.bool s3)∧w'.cell? ⟨(h+1),5,none⟩=some (.slice A3 n3 c3)∧w'.cell? ⟨(h+1),6,none⟩=some (.bool t3)∧w'.cell? ⟨(h+1),7,none⟩=some (.slice B3 m3 d3)∧Below wr.heap.size wr w') w'):=hJ (fun w' hb=>⟨(HA.out.new hb).cells.2.1,(HA.out.new hb).cells.2.2.1,(HA.out.new hb).cells.2.2.2.1,(HA.out.new hb).cells.2.2.2.2,(HB.out.new hb).cells.2.1,(HB.out.new hb).cells.2.2.1,(HB.out.new hb).cells.2.2.2.1,(HB.out.new hb).cells.2.2.2.2,hb⟩)
   have aI:=hJ (Below.refl wr.heap.size wr)
   obtain ⟨k,hk0⟩:∃ k,cmpI (u*v') (u'*v)=k:=⟨_,rfl⟩
   have aD:=hJ hk0
   clear hk0
   go_wp2_with fail
   obtain ⟨v0,hv0⟩:=nmz (World.drew wr)
   have aB:=hJ (show Below wr.heap.size wr v0 by rw [←hv0]; exact (Below.refl _ _).drew)
   have aF:=hJ (bt aI.out aB.out)
   have X_0:=hJ ((H1.out).new aB.out)
   have Y_0:=hJ ((H3.out).new aB.out)
   refine wp_region_held_drew (S:=(fun w':World=>w'.cell? ⟨h,4,none⟩=some (.bool s1)∧w'.cell? ⟨h,5,none⟩=some (.slice A1 n1 c1)∧w'.cell? ⟨h,6,none⟩=some (.bool t1)∧w'.cell? ⟨h,7,none⟩=some (.slice B1 m1 d1)∧w'.cell? ⟨(h+1),4,none⟩=some (.bool s3)∧w'.cell? ⟨(h+1),5,none⟩=some (.slice A3 n3 c3)∧w'.cell? ⟨(h+1),6,none⟩=some (.bool t3)∧w'.cell? ⟨(h+1),7,none⟩=some (.slice B3 m3 d3)∧Below wr.heap.size wr w')) (by kernel_rfl) ?_ (fun hHeld=>?_)
   ·rw [hv0]
    exact HS.out _ aF.out
   rw [hv0] at hHeld ⊢
   clear hv0 aB
   refine tq 0 ?_
   refine tq 1 ?_
   refine tq 2 ?_
   refine tq 3 ?_
   refine tq 4 ?_
   refine tq 5 ?_
   refine tq 6 ?_
   try simp only [PT]
   refine ryy [7] ?_
   refine .cons rfl (fun K hK=>?_) .nil
   go_simp
   go_at_call 65
   refine (fcompare_any u v u' v' s1 t1 s3 t3 A1 B1 A3 B3 n1 c1 m1 d1 n3 c3 m3 d3 v0 (X_0.out) (Y_0.out) HL.out.2.1.1 HL.out.2.2.2.1 HL.out.2.1.2.1 HL.out.2.1.2.2 HL.out.2.2.2.2.1 HL.out.2.2.2.2.2).mono ?_
   rw [aD.out]
   rintro e v1 ⟨rfl,hk⟩
   have aC:=hJ hk
   go_wp2_with fail
   have aH:=hJ (bt aF.out aC.out)
   have X_1:=hJ ((X_0.out).new aC.out)
   have Y_1:=hJ ((Y_0.out).new aC.out)
   clear hHeld
   refine hK.out _ _ (HS.out _ aH.out) (fun hHeld=>?_)
   clear hK K hk aC aF X_0 Y_0
   refine tq 8 ?_
   try simp only [PT]
   refine wpAnyH_done (by kernel_rfl) ?_ _
   clear hHeld
   have aA:=hJ aH.out
   by_cases hk:0 < k
   ·have HE:=hJ (show false=C by rw [←HC.out]; exact (decide_eq_false (fun hn=>by have:=cmpI_gt (hn.2); rw [aD.out] at this; exact this hk)).symm)
    go_wp2
    go_ret
    exact ⟨by rw [←HE.out]; rfl,bt aG.out aA.out⟩
   have HE:=hJ (show u*v'≤u'*v from cmpI_ng (by rw [aD.out]; exact hk))
   have hk':k≤0:=by omega
   clear hk
   go_wp2
   go_roundw
   case rel=>exact ⟨2,by omega,by go_num,HA.out.new aA.out,HB.out.new aA.out,H0.out.new aA.out,H1.out.new aA.out,H2.out.new aA.out,H3.out.new aA.out,hJ ⟨fun _=>hle.out.1 (by omega),fun _=>HE.out⟩,bt aG.out aA.out⟩
   case measure=>simp [intOf]
  ·have HE:=hJ (show true=C by rw [←HC.out]; exact (decide_eq_true ⟨hle.out.1 (by omega),hle.out.2 (by omega)⟩).symm)
   go_wp2
   go_ret
   exact ⟨by rw [←HE.out]; rfl,aG.out⟩
/-- Two boxes have a point in common. -/
def mtV (a b x y a' b' x' y':Int):Bool:=decide (max a a'≤min x x'∧max b b'≤min y y')
theorem meets_any (a b x y a' b' x' y':Int) (w:World) :
  Calls Tryz.prog 76 #[.agg #[.int .i64 a,.int .i64 b,.int .i64 x,.int .i64 y],.agg #[.int .i64 a',.int .i64 b',.int .i64 x',.int .i64 y']] w fun e w'=>e=.returned (.bool (mtV a b x y a' b' x' y'))∧Below w.heap.size w w':=by
 obtain ⟨W,hW⟩:∃ W,(w.alloc (.cells #[.int .i64 a,.int .i64 b,.int .i64 x,.int .i64 y] 97)).alloc (.cells #[.int .i64 a',.int .i64 b',.int .i64 x',.int .i64 y'] 97)=W:=⟨_,rfl⟩
 have HK:=hJ (show Below w.heap.size w W by rw [←hW]; exact ((Below.refl _ w).alloc (Nat.le_refl _) _).alloc (by simp) _)
 have HA:=hJ (show P4 97 W w.heap.size (.int .i64 a) (.int .i64 b) (.int .i64 x) (.int .i64 y) by rw [←hW]; exact (P4.lit w _ _ _ _ _).new ((Below.refl _ _).alloc (Nat.le_refl _) _))
 have HB:=hJ (show P4 97 W (w.heap.size+1) (.int .i64 a') (.int .i64 b') (.int .i64 x') (.int .i64 y') by
  rw [←hW]
  have h0:=P4.lit (w.alloc (.cells #[.int .i64 a,.int .i64 b,.int .i64 x,.int .i64 y] 97)) 97 (.int .i64 a') (.int .i64 b') (.int .i64 x') (.int .i64 y')
  rw [World.size_alloc] at h0
  exact h0)
 obtain ⟨a0,a1,a2,a3⟩:=HA.out.cells
 obtain ⟨b0,b1,b2,b3⟩:=HB.out.cells
 have qa2:=fun o=>(World.cell?_alloc_lt W o ⟨w.heap.size,2,none⟩ HA.out.lt).trans a2
 have qa3:=fun o=>(World.cell?_alloc_lt W o ⟨w.heap.size,3,none⟩ HA.out.lt).trans a3
 have qb2:=fun o=>(World.cell?_alloc_lt W o ⟨w.heap.size+1,2,none⟩ HB.out.lt).trans b2
 have qb3:=fun o=>(World.cell?_alloc_lt W o ⟨w.heap.size+1,3,none⟩ HB.out.lt).trans b3
 clear a2 a3 b2 b3
 go_enter Tryz.func76,Tryz.ntmps76
 go_wp2_with fail
 all_goals
  refine (notgr_any _ _ _ _ _).mono ?_
  rintro e w9 ⟨rfl,hb9⟩
  have aA:=hJ (bt ((HK.out.alloc HK.out.size _).alloc (HK.out.alloc HK.out.size _).size _) hb9)
  clear hb9 qa2 qa3 qb2 qb3 a0 a1 b0 b1
  go_wp2
  go_ret
  refine ⟨?_,aA.out⟩
  unfold mtV
  refine congrArg (fun z=>Ending.returned (.bool z)) ?_
  rw [←Bool.decide_and]
  all_goals exact decide_eq_decide.2 (by omega)
/-- A point lies in a box. -/
def inV (a b x y p q u v:Int):Bool:=ngV a 1 b 1 p q u v && ngV p q u v x 1 y 1
theorem in_any (a b x y p q u v:Int) (s0:Bool) (A0:Option Addr) (n0 c0:Nat) (t0:Bool) (B0:Option Addr) (m0 d0:Nat) (s1:Bool) (A1:Option Addr) (n1 c1:Nat) (t1:Bool) (B1:Option Addr) (m1 d1:Nat) (w:World) (h0:PF w s0 A0 n0 c0 t0 B0 m0 d0 p q) (h1:PF w s1 A1 n1 c1 t1 B1 m1 d1 u v) (hl:(0 < q∧p.natAbs < lim∧q.natAbs < lim)∧(0 < v∧u.natAbs < lim∧v.natAbs < lim)) (hi:(Lit.int .i64 a).wf=true∧(Lit.int .i64 b).wf=true∧(Lit.int .i64 x).wf=true∧(Lit.int .i64 y).wf=true) :
  Calls Tryz.prog 46 #[.agg #[.int .i64 a,.int .i64 b,.int .i64 x,.int .i64 y],.agg #[.bool s0,.slice A0 n0 c0,.bool t0,.slice B0 m0 d0,.bool s1,.slice A1 n1 c1,.bool t1,.slice B1 m1 d1]] w fun e w'=>e=.returned (.bool (inV a b x y p q u v))∧Below w.heap.size w w':=by
 have HL:=hJ hl
 have HI:=hJ hi
 clear hl hi
 obtain ⟨W,hW⟩:∃ W,(w.alloc (.cells #[.int .i64 a,.int .i64 b,.int .i64 x,.int .i64 y] 97)).alloc (.cells #[.bool s0,.slice A0 n0 c0,.bool t0,.slice B0 m0 d0,.bool s1,.slice A1 n1 c1,.bool t1,.slice B1 m1 d1] 37)=W:=⟨_,rfl⟩
 have HK:=hJ (show Below w.heap.size w W by rw [←hW]; exact ((Below.refl _ w).alloc (Nat.le_refl _) _).alloc (by simp) _)
 have HA:=hJ (show P4 97 W w.heap.size (.int .i64 a) (.int .i64 b) (.int .i64 x) (.int .i64 y) by rw [←hW]; exact (P4.lit w _ _ _ _ _).new ((Below.refl _ _).alloc (Nat.le_refl _) _))
 have HB:=hJ (show P8 37 W (w.heap.size+1) (.bool s0) (.slice A0 n0 c0) (.bool t0) (.slice B0 m0 d0) (.bool s1) (.slice A1 n1 c1) (.bool t1) (.slice B1 m1 d1) by
  rw [←hW]
  have h0:=P8.lit (w.alloc (.cells #[.int .i64 a,.int .i64 b,.int .i64 x,.int .i64 y] 97)) 37 (.bool s0) (.slice A0 n0 c0) (.bool t0) (.slice B0 m0 d0) (.bool s1) (.slice A1 n1 c1) (.bool t1) (.slice B1 m1 d1)
  rw [World.size_alloc] at h0
  exact h0)
 have H0:=hJ (h0.new HK.out)
 have H1:=hJ (h1.new HK.out)
 clear h0 h1
 obtain ⟨h,hh⟩:∃ h,w.heap.size=h:=⟨_,rfl⟩
 rw [hh] at HA HB
 obtain ⟨r1,hr1⟩:∃ r,ngV a 1 b 1 p q u v=r:=⟨_,rfl⟩
 obtain ⟨r2,hr2⟩:∃ r,ngV p q u v x 1 y 1=r:=⟨_,rfl⟩
 have HR:=hJ (And.intro hr1 hr2)
 have HV:=hJ (show inV a b x y p q u v=(r1 && r2) by unfold inV; rw [hr1,hr2])
 rw [HV.out]
 clear hr1 hr2 HV
 go_enter Tryz.func46,Tryz.ntmps46
 go_wp2_with fail
 clear hW hh
 have HS:Hid (∀ w',Below W.heap.size W w'→(fun w':World=>w'.cell? ⟨h,0,none⟩=some (.int .i64 a)∧w'.cell? ⟨h,1,none⟩=some (.int .i64 b)∧w'.cell? ⟨h,2,none⟩=some (.int .i64 x)∧w'.cell? ⟨h,3,none⟩=some (.int .i64 y)∧w'.cell? ⟨(h+1),0,none⟩=some (.bool s0)∧w'.cell? ⟨(h+1),1,none⟩=some (.slice A0 n0 c0)∧w'.cell? ⟨(h+1),2,none⟩=some (.bool t0)∧w'.cell? ⟨(h+1),3,none⟩=some (.slice B0 m0 d0)∧w'.cell? ⟨(h+1),4,none⟩=some (.bool s1)∧w'.cell? ⟨(h+1),5,none⟩=some (.slice A1 n1 c1)∧w'.cell? ⟨(h+1),6,none⟩=some (.bool t1)∧w'.cell? ⟨(h+1),7,none⟩=some (.slice B1 m1 d1)∧Below W.heap.size W w') w'):=hJ (fun w' hb=>⟨(HA.out.new hb).cells.1,(HA.out.new hb).cells.2.1,(HA.out.new hb).cells.2.2.1,(HA.out.new hb).cells.2.2.2,(HB.out.new hb).cells.1.1,(HB.out.new hb).cells.1.2.1,(HB.out.new hb).cells.1.2.2.1,(HB.out.new hb).cells.1.2.2.2,(HB.out.new hb).cells.2.1,(HB.out.new hb).cells.2.2.1,(HB.out.new hb).cells.2.2.2.1,(HB.out.new hb).cells.2.2.2.2,hb⟩)
 have aV:=hJ (Below.refl W.heap.size W)
 cases r1 with
 | true =>
  obtain ⟨v0,hv0⟩:=nmz (World.drew W)
  have aB:=hJ (show Below W.heap.size W v0 by rw [←hv0]; exact (Below.refl _ _).drew)
  have aG:=hJ (bt aV.out aB.out)
  have F0_0:=hJ ((H0.out).new aB.out)
  have F1_0:=hJ ((H1.out).new aB.out)
  refine wp_region_held_drew (S:=(fun w':World=>w'.cell? ⟨h,0,none⟩=some (.int .i64 a)∧w'.cell? ⟨h,1,none⟩=some (.int .i64 b)∧w'.cell? ⟨h,2,none⟩=some (.int .i64 x)∧w'.cell? ⟨h,3,none⟩=some (.int .i64 y)∧w'.cell? ⟨(h+1),0,none⟩=some (.bool s0)∧w'.cell? ⟨(h+1),1,none⟩=some (.slice A0 n0 c0)∧w'.cell? ⟨(h+1),2,none⟩=some (.bool t0)∧w'.cell? ⟨(h+1),3,none⟩=some (.slice B0 m0 d0)∧w'.cell? ⟨(h+1),4,none⟩=some (.bool s1)∧w'.cell? ⟨(h+1),5,none⟩=some (.slice A1 n1 c1)∧w'.cell? ⟨(h+1),6,none⟩=some (.bool t1)∧w'.cell? ⟨(h+1),7,none⟩=some (.slice B1 m1 d1)∧Below W.heap.size W w')) (by kernel_rfl) ?_ (fun hHeld=>?_)
  ·rw [hv0]
   exact HS.out _ aG.out
  rw [hv0] at hHeld ⊢
  clear hv0 aB
  refine tq 0 ?_
  refine tq 1 ?_
  refine tq 4 ?_
  try simp only [PT]
  refine ryy [2] ?_
  refine .cons rfl (fun K hK=>?_) .nil
  go_simp
  go_at_call_of 21 (Value.agg #[.int .i64 a,.int .i64 b])
  refine (pof_any a b v0 HI.out.1 HI.out.2.1).mono ?_
  rintro e v1 ⟨s2,A2,n2,c2,t2,B2,m2,d2,s3,A3,n3,c3,t3,B3,m3,d3,rfl,hr1,hr2,hk⟩
  have F2_1:=hJ (hr1)
  have F3_1:=hJ (hr2)
  have aC:=hJ hk
  go_wp2_with fail
  have aH:=hJ (bt aG.out aC.out)
  have F0_1:=hJ ((F0_0.out).new aC.out)
  have F1_1:=hJ ((F1_0.out).new aC.out)
  clear hHeld
  refine hK.out _ _ (HS.out _ aH.out) (fun hHeld=>?_)
  clear hK K hk aC hr1 hr2 aG F0_0 F1_0
  try simp only [PT]
  refine ryy [3] ?_
  refine .cons rfl (fun K hK=>?_) .nil
  go_simp
  go_at_call_of 64 (Value.agg #[.bool s2,.slice A2 n2 c2,.bool t2,.slice B2 m2 d2,.bool s3,.slice A3 n3 c3,.bool t3,.slice B3 m3 d3])
  refine (fractions_any a 1 b 1 s2 A2 n2 c2 t2 B2 m2 d2 s3 A3 n3 c3 t3 B3 m3 d3 v1 (F2_1.out) (F3_1.out)).mono ?_
  rintro e v2 ⟨s4,A4,n4,c4,t4,B4,m4,d4,s5,A5,n5,c5,t5,B5,m5,d5,rfl,hr1,hr2,hk⟩
  have F4_2:=hJ (hr1)
  have F5_2:=hJ (hr2)
  have aD:=hJ hk
  go_wp2_with fail
  clear F2_1
  clear F3_1
  have aI:=hJ (bt aH.out aD.out)
  have F0_2:=hJ ((F0_1.out).new aD.out)
  have F1_2:=hJ ((F1_1.out).new aD.out)
  clear hHeld
  refine hK.out _ _ (HS.out _ aI.out) (fun hHeld=>?_)
  clear hK K hk aD hr1 hr2 aH F0_1 F1_1
  try simp only [PT]
  refine ryy [5] ?_
  refine .cons rfl (fun K hK=>?_) .nil
  go_simp
  go_at_call_of 64 (Value.agg #[.bool s0,.slice A0 n0 c0,.bool t0,.slice B0 m0 d0,.bool s1,.slice A1 n1 c1,.bool t1,.slice B1 m1 d1])
  refine (fractions_any p q u v s0 A0 n0 c0 t0 B0 m0 d0 s1 A1 n1 c1 t1 B1 m1 d1 v2 (F0_2.out) (F1_2.out)).mono ?_
  rintro e v3 ⟨s6,A6,n6,c6,t6,B6,m6,d6,s7,A7,n7,c7,t7,B7,m7,d7,rfl,hr1,hr2,hk⟩
  have F6_3:=hJ (hr1)
  have F7_3:=hJ (hr2)
  have aA:=hJ hk
  go_wp2_with fail
  have aJ:=hJ (bt aI.out aA.out)
  have F0_3:=hJ ((F0_2.out).new aA.out)
  have F1_3:=hJ ((F1_2.out).new aA.out)
  have F4_3:=hJ ((F4_2.out).new aA.out)
  have F5_3:=hJ ((F5_2.out).new aA.out)
  clear hHeld
  refine hK.out _ _ (HS.out _ aJ.out) (fun hHeld=>?_)
  clear hK K hk aA hr1 hr2 aI F0_2 F1_2 F4_2 F5_2
  try simp only [PT]
  refine ryy [6] ?_
  refine .cons rfl (fun K hK=>?_) .nil
  go_simp
  go_at_call 80
  refine (notgrf_any a 1 b 1 p q u v s4 A4 n4 c4 t4 B4 m4 d4 s5 A5 n5 c5 t5 B5 m5 d5 s6 A6 n6 c6 t6 B6 m6 d6 s7 A7 n7 c7 t7 B7 m7 d7 v3 (F4_3.out) (F5_3.out) (F6_3.out) (F7_3.out) ⟨⟨by decide,i64_lim HI.out.1,one_lim⟩,⟨by decide,i64_lim HI.out.2.1,one_lim⟩,HL.out.1,HL.out.2⟩).mono ?_
  rw [HR.out.1]
  rintro e v4 ⟨rfl,hk⟩
  have aF:=hJ hk
  go_wp2_with fail
  clear F4_3
  clear F5_3
  clear F6_3
  clear F7_3
  have aK:=hJ (bt aJ.out aF.out)
  have F0_4:=hJ ((F0_3.out).new aF.out)
  have F1_4:=hJ ((F1_3.out).new aF.out)
  clear hHeld
  refine hK.out _ _ (HS.out _ aK.out) (fun hHeld=>?_)
  clear hK K hk aF aJ F0_3 F1_3
  refine tq 7 ?_
  refine tq 8 ?_
  refine tq 10 ?_
  refine tq 11 ?_
  try simp only [PT]
  refine ryy [9] ?_
  refine .cons rfl (fun K hK=>?_) .nil
  go_simp
  go_at_call_of 64 (Value.agg #[.bool s0,.slice A0 n0 c0,.bool t0,.slice B0 m0 d0,.bool s1,.slice A1 n1 c1,.bool t1,.slice B1 m1 d1])
  refine (fractions_any p q u v s0 A0 n0 c0 t0 B0 m0 d0 s1 A1 n1 c1 t1 B1 m1 d1 v4 (F0_4.out) (F1_4.out)).mono ?_
  rintro e v5 ⟨s8,A8,n8,c8,t8,B8,m8,d8,s9,A9,n9,c9,t9,B9,m9,d9,rfl,hr1,hr2,hk⟩
  have F8_5:=hJ (hr1)
  have F9_5:=hJ (hr2)
  have aN:=hJ hk
  go_wp2_with fail
  have aR:=hJ (bt aK.out aN.out)
  have F0_5:=hJ ((F0_4.out).new aN.out)
  have F1_5:=hJ ((F1_4.out).new aN.out)
  clear hHeld
  refine hK.out _ _ (HS.out _ aR.out) (fun hHeld=>?_)
  clear hK K hk aN hr1 hr2 aK F0_4 F1_4
  try simp only [PT]
  refine ryy [12] ?_
  refine .cons rfl (fun K hK=>?_) .nil
  go_simp
  go_at_call_of 21 (Value.agg #[.int .i64 x,.int .i64 y])
  refine (pof_any x y v5 HI.out.2.2.1 HI.out.2.2.2).mono ?_
  rintro e v6 ⟨s10,A10,n10,c10,t10,B10,m10,d10,s11,A11,n11,c11,t11,B11,m11,d11,rfl,hr1,hr2,hk⟩
  have F10_6:=hJ (hr1)
  have F11_6:=hJ (hr2)
  have aL:=hJ hk
  go_wp2_with fail
  have aS:=hJ (bt aR.out aL.out)
  have F0_6:=hJ ((F0_5.out).new aL.out)
  have F1_6:=hJ ((F1_5.out).new aL.out)
  have F8_6:=hJ ((F8_5.out).new aL.out)
  have F9_6:=hJ ((F9_5.out).new aL.out)
  clear hHeld
  refine hK.out _ _ (HS.out _ aS.out) (fun hHeld=>?_)
  clear hK K hk aL hr1 hr2 aR F0_5 F1_5 F8_5 F9_5
  try simp only [PT]
  refine ryy [13] ?_
  refine .cons rfl (fun K hK=>?_) .nil
  go_simp
  go_at_call_of 64 (Value.agg #[.bool s10,.slice A10 n10 c10,.bool t10,.slice B10 m10 d10,.bool s11,.slice A11 n11 c11,.bool t11,.slice B11 m11 d11])
  refine (fractions_any x 1 y 1 s10 A10 n10 c10 t10 B10 m10 d10 s11 A11 n11 c11 t11 B11 m11 d11 v6 (F10_6.out) (F11_6.out)).mono ?_
  rintro e v7 ⟨s12,A12,n12,c12,t12,B12,m12,d12,s13,A13,n13,c13,t13,B13,m13,d13,rfl,hr1,hr2,hk⟩
  have F12_7:=hJ (hr1)
  have F13_7:=hJ (hr2)
  have aM:=hJ hk
  go_wp2_with fail
  clear F10_6
  clear F11_6
  have aT:=hJ (bt aS.out aM.out)
  have F0_7:=hJ ((F0_6.out).new aM.out)
  have F1_7:=hJ ((F1_6.out).new aM.out)
  have F8_7:=hJ ((F8_6.out).new aM.out)
  have F9_7:=hJ ((F9_6.out).new aM.out)
  clear hHeld
  refine hK.out _ _ (HS.out _ aT.out) (fun hHeld=>?_)
  clear hK K hk aM hr1 hr2 aS F0_6 F1_6 F8_6 F9_6
  try simp only [PT]
  refine ryy [14] ?_
  refine .cons rfl (fun K hK=>?_) .nil
  go_simp
  go_at_call 80
  refine (notgrf_any p q u v x 1 y 1 s8 A8 n8 c8 t8 B8 m8 d8 s9 A9 n9 c9 t9 B9 m9 d9 s12 A12 n12 c12 t12 B12 m12 d12 s13 A13 n13 c13 t13 B13 m13 d13 v7 (F8_7.out) (F9_7.out) (F12_7.out) (F13_7.out) ⟨HL.out.1,HL.out.2,⟨by decide,i64_lim HI.out.2.2.1,one_lim⟩,⟨by decide,i64_lim HI.out.2.2.2,one_lim⟩⟩).mono ?_
  rw [HR.out.2]
  rintro e v8 ⟨rfl,hk⟩
  have aO:=hJ hk
  go_wp2_with fail
  clear F8_7
  clear F9_7
  clear F12_7
  clear F13_7
  have aW:=hJ (bt aT.out aO.out)
  have F0_8:=hJ ((F0_7.out).new aO.out)
  have F1_8:=hJ ((F1_7.out).new aO.out)
  clear hHeld
  refine hK.out _ _ (HS.out _ aW.out) (fun hHeld=>?_)
  clear hK K hk aO aT F0_7 F1_7
  refine tq 15 ?_
  refine tq 16 ?_
  try simp only [PT]
  refine wpAnyH_done (by kernel_rfl) ?_ _
  clear hHeld
  have aU:=hJ (bt HK.out aW.out)
  go_wp2
  go_ret
  exact ⟨rfl,aU.out⟩
 | false =>
  obtain ⟨v0,hv0⟩:=nmz (World.drew W)
  have aB:=hJ (show Below W.heap.size W v0 by rw [←hv0]; exact (Below.refl _ _).drew)
  have aG:=hJ (bt aV.out aB.out)
  have F0_0:=hJ ((H0.out).new aB.out)
  have F1_0:=hJ ((H1.out).new aB.out)
  refine wp_region_held_drew (S:=(fun w':World=>w'.cell? ⟨h,0,none⟩=some (.int .i64 a)∧w'.cell? ⟨h,1,none⟩=some (.int .i64 b)∧w'.cell? ⟨h,2,none⟩=some (.int .i64 x)∧w'.cell? ⟨h,3,none⟩=some (.int .i64 y)∧w'.cell? ⟨(h+1),0,none⟩=some (.bool s0)∧w'.cell? ⟨(h+1),1,none⟩=some (.slice A0 n0 c0)∧w'.cell? ⟨(h+1),2,none⟩=some (.bool t0)∧w'.cell? ⟨(h+1),3,none⟩=some (.slice B0 m0 d0)∧w'.cell? ⟨(h+1),4,none⟩=some (.bool s1)∧w'.cell? ⟨(h+1),5,none⟩=some (.slice A1 n1 c1)∧w'.cell? ⟨(h+1),6,none⟩=some (.bool t1)∧w'.cell? ⟨(h+1),7,none⟩=some (.slice B1 m1 d1)∧Below W.heap.size W w')) (by kernel_rfl) ?_ (fun hHeld=>?_)
  ·rw [hv0]
   exact HS.out _ aG.out
  rw [hv0] at hHeld ⊢
  clear hv0 aB
  refine tq 0 ?_
  refine tq 1 ?_
  refine tq 4 ?_
  try simp only [PT]
  refine ryy [2] ?_
  refine .cons rfl (fun K hK=>?_) .nil
  go_simp
  go_at_call_of 21 (Value.agg #[.int .i64 a,.int .i64 b])
  refine (pof_any a b v0 HI.out.1 HI.out.2.1).mono ?_
  rintro e v1 ⟨s2,A2,n2,c2,t2,B2,m2,d2,s3,A3,n3,c3,t3,B3,m3,d3,rfl,hr1,hr2,hk⟩
  have F2_1:=hJ (hr1)
  have F3_1:=hJ (hr2)
  have aC:=hJ hk
  go_wp2_with fail
  have aH:=hJ (bt aG.out aC.out)
  have F0_1:=hJ ((F0_0.out).new aC.out)
  have F1_1:=hJ ((F1_0.out).new aC.out)
  clear hHeld
  refine hK.out _ _ (HS.out _ aH.out) (fun hHeld=>?_)
  clear hK K hk aC hr1 hr2 aG F0_0 F1_0
  try simp only [PT]
  refine ryy [3] ?_
  refine .cons rfl (fun K hK=>?_) .nil
  go_simp
  go_at_call_of 64 (Value.agg #[.bool s2,.slice A2 n2 c2,.bool t2,.slice B2 m2 d2,.bool s3,.slice A3 n3 c3,.bool t3,.slice B3 m3 d3])
  refine (fractions_any a 1 b 1 s2 A2 n2 c2 t2 B2 m2 d2 s3 A3 n3 c3 t3 B3 m3 d3 v1 (F2_1.out) (F3_1.out)).mono ?_
  rintro e v2 ⟨s4,A4,n4,c4,t4,B4,m4,d4,s5,A5,n5,c5,t5,B5,m5,d5,rfl,hr1,hr2,hk⟩
  have F4_2:=hJ (hr1)
  have F5_2:=hJ (hr2)
  have aD:=hJ hk
  go_wp2_with fail
  clear F2_1
  clear F3_1
  have aI:=hJ (bt aH.out aD.out)
  have F0_2:=hJ ((F0_1.out).new aD.out)
  have F1_2:=hJ ((F1_1.out).new aD.out)
  clear hHeld
  refine hK.out _ _ (HS.out _ aI.out) (fun hHeld=>?_)
  clear hK K hk aD hr1 hr2 aH F0_1 F1_1
  try simp only [PT]
  refine ryy [5] ?_
  refine .cons rfl (fun K hK=>?_) .nil
  go_simp
  go_at_call_of 64 (Value.agg #[.bool s0,.slice A0 n0 c0,.bool t0,.slice B0 m0 d0,.bool s1,.slice A1 n1 c1,.bool t1,.slice B1 m1 d1])
  refine (fractions_any p q u v s0 A0 n0 c0 t0 B0 m0 d0 s1 A1 n1 c1 t1 B1 m1 d1 v2 (F0_2.out) (F1_2.out)).mono ?_
  rintro e v3 ⟨s6,A6,n6,c6,t6,B6,m6,d6,s7,A7,n7,c7,t7,B7,m7,d7,rfl,hr1,hr2,hk⟩
  have F6_3:=hJ (hr1)
  have F7_3:=hJ (hr2)
  have aA:=hJ hk
  go_wp2_with fail
  have aJ:=hJ (bt aI.out aA.out)
  have F0_3:=hJ ((F0_2.out).new aA.out)
  have F1_3:=hJ ((F1_2.out).new aA.out)
  have F4_3:=hJ ((F4_2.out).new aA.out)
  have F5_3:=hJ ((F5_2.out).new aA.out)
  clear hHeld
  refine hK.out _ _ (HS.out _ aJ.out) (fun hHeld=>?_)
  clear hK K hk aA hr1 hr2 aI F0_2 F1_2 F4_2 F5_2
  try simp only [PT]
  refine ryy [6] ?_
  refine .cons rfl (fun K hK=>?_) .nil
  go_simp
  go_at_call 80
  refine (notgrf_any a 1 b 1 p q u v s4 A4 n4 c4 t4 B4 m4 d4 s5 A5 n5 c5 t5 B5 m5 d5 s6 A6 n6 c6 t6 B6 m6 d6 s7 A7 n7 c7 t7 B7 m7 d7 v3 (F4_3.out) (F5_3.out) (F6_3.out) (F7_3.out) ⟨⟨by decide,i64_lim HI.out.1,one_lim⟩,⟨by decide,i64_lim HI.out.2.1,one_lim⟩,HL.out.1,HL.out.2⟩).mono ?_
  rw [HR.out.1]
  rintro e v4 ⟨rfl,hk⟩
  have aF:=hJ hk
  go_wp2_with fail
  clear F4_3
  clear F5_3
  clear F6_3
  clear F7_3
  have aK:=hJ (bt aJ.out aF.out)
  have F0_4:=hJ ((F0_3.out).new aF.out)
  have F1_4:=hJ ((F1_3.out).new aF.out)
  clear hHeld
  refine hK.out _ _ (HS.out _ aK.out) (fun hHeld=>?_)
  clear hK K hk aF aJ F0_3 F1_3
  refine tq 7 ?_
  try simp only [PT]
  refine wpAnyH_take (i:=8) (v:=undef) rfl (by kernel_rfl) (by kernel_rfl) (by kernel_rfl) (fun _ _ _ h=>h) (Or.inr ⟨by kernel_rfl,rfl⟩) (by assumption) ?_
  try simp only [PT]
  refine wpAnyH_take (i:=9) (v:=undef) rfl (by kernel_rfl) (by kernel_rfl) (by kernel_rfl) (fun _ _ _ h=>h) (Or.inr ⟨by kernel_rfl,rfl⟩) (by assumption) ?_
  try simp only [PT]
  refine wpAnyH_take (i:=10) (v:=undef) rfl (by kernel_rfl) (by kernel_rfl) (by kernel_rfl) (fun _ _ _ h=>h) (Or.inr ⟨by kernel_rfl,rfl⟩) (by assumption) ?_
  try simp only [PT]
  refine wpAnyH_take (i:=11) (v:=undef) rfl (by kernel_rfl) (by kernel_rfl) (by kernel_rfl) (fun _ _ _ h=>h) (Or.inr ⟨by kernel_rfl,rfl⟩) (by assumption) ?_
  try simp only [PT]
  refine wpAnyH_take (i:=12) (v:=undef) rfl (by kernel_rfl) (by kernel_rfl) (by kernel_rfl) (fun _ _ _ h=>h) (Or.inr ⟨by kernel_rfl,rfl⟩) (by assumption) ?_
  try simp only [PT]
  refine wpAnyH_take (i:=13) (v:=undef) rfl (by kernel_rfl) (by kernel_rfl) (by kernel_rfl) (fun _ _ _ h=>h) (Or.inr ⟨by kernel_rfl,rfl⟩) (by assumption) ?_
  try simp only [PT]
  refine wpAnyH_take (i:=14) (v:=undef) rfl (by kernel_rfl) (by kernel_rfl) (by kernel_rfl) (fun _ _ _ h=>h) (Or.inr ⟨by kernel_rfl,rfl⟩) (by assumption) ?_
  refine tq 15 ?_
  refine tq 16 ?_
  try simp only [PT]
  refine wpAnyH_done (by kernel_rfl) ?_ _
  clear hHeld
  have aU:=hJ (bt HK.out aK.out)
  go_wp2
  go_ret
  exact ⟨rfl,aU.out⟩
/-- Points as values, one behind the other. -/
def vp:List (Int × Int)→List Value
 | []=>[]
 | p :: l=>.int .i64 p.1 :: .int .i64 p.2 :: vp l
theorem vp_snoc (l:List (Int × Int)) (p:Int × Int):vp l ++ [.int .i64 p.1,.int .i64 p.2]=vp (l ++ [p]):=by
 induction l with
 | nil=>rfl
 | cons q l ih=>rw [vp,List.cons_append,List.cons_append,ih]; rfl
theorem vp_get {l:List (Int × Int)} {i:Nat} {p:Int × Int} (h:l[i]?=some p):(vp l)[i*2]?=some (.int .i64 p.1)∧(vp l)[i*2+1]?=some (.int .i64 p.2):=by
 induction l generalizing i with
 | nil=>simp at h
 | cons q l ih =>
  match i with
  | 0=>simp at h; subst h; exact ⟨rfl,rfl⟩
  | i+1 =>
   have:=ih (i:=i) (by simpa using h)
   rw [show (i+1)*2=i*2+1+1 by omega]
   exact this
/-- Block g holds these points. -/
def C2 (w:World) (g:Nat) (l:List (Int × Int)):Prop:=∀ i p,l[i]?=some p→w.cell? ⟨g,i*2,none⟩=some (.int .i64 p.1)∧w.cell? ⟨g,i*2+1,none⟩=some (.int .i64 p.2)
theorem C2.new {w w':World} {g B:Nat} {l:List (Int × Int)} (h:C2 w g l) (hb:Below B w w') (hg:g < B):C2 w' g l:=by
 intro i p hp
 obtain ⟨h1,h2⟩:=h i p hp
 exact ⟨(hb.cell (p:=⟨g,i*2,none⟩) hg).trans h1,(hb.cell (p:=⟨g,i*2+1,none⟩) hg).trans h2⟩
theorem C2.lit (w:World) (t:TypeId) (x0 y0 x1 y1 x2 y2 x3 y3:Int):C2 (w.alloc (.cells #[.int .i64 x0,.int .i64 y0,.int .i64 x1,.int .i64 y1,.int .i64 x2,.int .i64 y2,.int .i64 x3,.int .i64 y3] t)) w.heap.size [(x0,y0),(x1,y1),(x2,y2),(x3,y3)]:=by
 have hh:=heap_alloc_new w (.cells #[.int .i64 x0,.int .i64 y0,.int .i64 x1,.int .i64 y1,.int .i64 x2,.int .i64 y2,.int .i64 x3,.int .i64 y3] t)
 intro i p hp
 match i with
 | 0=>simp at hp; subst hp; exact ⟨(cell_of_row _ _ _ _ t (0,0) hh).trans rfl,(cell_of_row _ _ _ _ t (0,0) hh).trans rfl⟩
 | 1=>simp at hp; subst hp; exact ⟨(cell_of_row _ _ _ _ t (0,0) hh).trans rfl,(cell_of_row _ _ _ _ t (0,0) hh).trans rfl⟩
 | 2=>simp at hp; subst hp; exact ⟨(cell_of_row _ _ _ _ t (0,0) hh).trans rfl,(cell_of_row _ _ _ _ t (0,0) hh).trans rfl⟩
 | 3=>simp at hp; subst hp; exact ⟨(cell_of_row _ _ _ _ t (0,0) hh).trans rfl,(cell_of_row _ _ _ _ t (0,0) hh).trans rfl⟩
 | i+4=>simp at hp
theorem own_c2 {w:World} {base n:Nat} {t:TypeId} {v:Value} {l:List (Int × Int)} (h:w.ownsRow base t 2 v n (vp l)) (hn:0 < n):∃ g cap,v=.slice (some ⟨g,0,none⟩) n cap∧base≤g∧g < w.heap.size∧n≤cap∧C2 w g l:=by
 rcases h.2 with ⟨_,h0⟩ | ⟨g,cap,cur,rfl,h2,h3,h4,_⟩
 ·omega
 ·refine ⟨g,cap,rfl,h2,(Array.getElem?_eq_some_iff.1 h3).1,h4,fun i p hp=>?_⟩
  obtain ⟨e1,e2⟩:=vp_get hp
  have a1:=h.cells (g:=g) rfl _ _ e1
  have a2:=h.cells (g:=g) rfl _ _ e2
  rw [Go.WideShapes.add_plain,Nat.zero_add] at a1 a2
  exact ⟨a1,a2⟩
theorem co_wf {x:Int} (h:Co x):(Lit.int .i64 x).wf=true:=WalkArith.wf_i64 (by have:=h.1; have:=h.2; omega)
/-- Block b is just three cells, none frozen. -/
def P3 (t:TypeId) (w:World) (b:Nat) (v0 v1 v2:Value):Prop:=w.heap[b]?=some (.cells #[v0,v1,v2] t (0,0))
section
variable {t:TypeId} {w w':World} {b:Nat} {v0 v1 v2:Value}
theorem P3.lt (h:P3 t w b v0 v1 v2):b < w.heap.size:=(Array.getElem?_eq_some_iff.1 h).1
theorem P3.cells (h:P3 t w b v0 v1 v2):w.cell? ⟨b,0,none⟩=some v0∧w.cell? ⟨b,1,none⟩=some v1∧w.cell? ⟨b,2,none⟩=some v2:=by
 unfold P3 at h
 refine ⟨?_,?_,?_⟩ <;> simp [World.cell?,h]
theorem P3.frozen (h:P3 t w b v0 v1 v2) (i:Nat):w.frozen? ⟨b,i,none⟩=false:=by
 unfold P3 at h
 simp [World.frozen?,h]
theorem P3.new (h:P3 t w b v0 v1 v2) (hb:Below w.heap.size w w'):P3 t w' b v0 v1 v2:=(hb.block b h.lt).trans h
theorem P3.lit (w:World) (t:TypeId) (v0 v1 v2:Value):P3 t (w.alloc (.cells #[v0,v1,v2] t)) w.heap.size v0 v1 v2:=heap_alloc_new w _
theorem P3.all (h:P3 t w b v0 v1 v2) (u0 u1 u2:Value):P3 t (((w.setCell ⟨b,0,none⟩ u0).setCell ⟨b,1,none⟩ u1).setCell ⟨b,2,none⟩ u2) b u0 u1 u2:=by
 unfold P3 at h ⊢
 simp [World.setCell,Array.getElem?_modify,h]
end
theorem below_box3 {w0 w:World} {B b:Nat} (h:Below B w0 w) (hb:B≤b) (u0 u1 u2:Value):Below B w0 (((w.setCell ⟨b,0,none⟩ u0).setCell ⟨b,1,none⟩ u1).setCell ⟨b,2,none⟩ u2) :=
 ((h.setCell (p:=⟨b,0,none⟩) hb u0).setCell (p:=⟨b,1,none⟩) hb u1).setCell (p:=⟨b,2,none⟩) hb u2
theorem R_size:(Tryz.prog.info? 47).map (·.size)=some 3:=by kernel_rfl
theorem rof_any (x y:Int) (w:World) :
  Calls Tryz.prog 26 #[.agg #[.int .i64 x,.int .i64 y]] w fun e w'=>e=.returned (.agg #[.int .i64 x,.int .i64 y,.int .i64 1])∧Below w.heap.size w w':=by
 obtain ⟨W,hW⟩:∃ W,(w.alloc (.cells #[.int .i64 x,.int .i64 y] 23)).alloc (.cells #[.int .i64 0,.int .i64 0,.int .i64 0] 47)=W:=⟨_,rfl⟩
 have HK:=hJ (show Below w.heap.size w W by rw [←hW]; exact ((Below.refl _ w).alloc (Nat.le_refl _) _).alloc (by simp) _)
 have HA:=hJ (show P2 23 W w.heap.size (.int .i64 x) (.int .i64 y) by rw [←hW]; exact (P2.lit w _ _ _).alloc _)
 have HZ:=hJ (show P3 47 W (w.heap.size+1) (.int .i64 0) (.int .i64 0) (.int .i64 0) by
  rw [←hW]
  have h0:=P3.lit (w.alloc (.cells #[.int .i64 x,.int .i64 y] 23)) 47 (.int .i64 0) (.int .i64 0) (.int .i64 0)
  rw [World.size_alloc] at h0
  exact h0)
 obtain ⟨a0,a1⟩:=HA.out.cells
 obtain ⟨z0,z1,z2⟩:=HZ.out.cells
 have f0:=HZ.out.frozen 0
 have f1:=HZ.out.frozen 1
 have f2:=HZ.out.frozen 2
 go_enter Tryz.func26,Tryz.ntmps26
 go_wp2
 exact bodyPost_ret (results_cell_row rfl _ _ _ _ _ _ _ rfl (HZ.out.all (.int .i64 x) (.int .i64 y) (.int .i64 1)) Tryz.underlying47 rfl R_size) rfl ⟨rfl,below_box3 HK.out (by omega) _ _ _⟩
theorem rcommon_any (a b:Int) (w:World) (ha : -1099511627776≤a∧a≤1099511627776) (hb : -1099511627776≤b∧b≤1099511627776) :
  Calls Tryz.prog 61 #[.int .i64 a,.int .i64 b] w fun e w'=>e=.returned (.int .i64 (Nat.gcd a.natAbs b.natAbs:Nat))∧w=w':=by
 obtain ⟨G,hG⟩:∃ g,Nat.gcd a.natAbs b.natAbs=g:=⟨_,rfl⟩
 have HG:=hJ hG
 rw [hG]
 clear hG
 have hna:IntKind.i64.wrap (-a) = -a:=IntWalk.i64_in _ (by omega)
 have hnb:IntKind.i64.wrap (-b) = -b:=IntWalk.i64_in _ (by omega)
 obtain ⟨x,hx⟩:∃ x:Nat,a.natAbs=x:=⟨_,rfl⟩
 obtain ⟨y,hy⟩:∃ y:Nat,b.natAbs=y:=⟨_,rfl⟩
 have aA:=hJ (And.intro hx hy)
 go_enter Tryz.func61,Tryz.ntmps61
 by_cases h1:a < 0 <;> by_cases h2:b < 0
 all_goals
  go_wp2_with fail
  clear hna hnb
  go_loopw [0,1] (fun ta tb wr=>∃ p q:Nat,ta=.int .i64 (p:Int)∧tb=.int .i64 (q:Int)∧Hid (Nat.gcd p q=G)∧p≤1099511627776∧q≤1099511627776∧wr=w) (fun _ tb _=>(intOf tb).toNat)
  case atStart=>exact ⟨x,y,by congr 1; omega,by congr 1; omega,hJ (by rw [←HG.out,aA.out.1,aA.out.2]),by omega,by omega,rfl⟩
  case round =>
   obtain ⟨p,q,rfl,rfl,hg,hp,hq,rfl⟩:=hrel
   by_cases h0:q=0
   ·subst h0
    have HE:=hJ (show p=G by rw [←hg.out,Nat.gcd_zero_right])
    go_wp2
    go_ret
    exact ⟨by rw [HE.out]; rfl,rfl⟩
   ·have hq0:(0:Int) < (q:Int):=by omega
    have hr:p % q < q:=Nat.mod_lt _ (by omega)
    have e1:(p:Int) % (q:Int)=((p % q:Nat):Int):=rfl
    have e2:IntKind.i64.wrap ((p:Int) % (q:Int))=((p % q:Nat):Int):=by rw [e1]; exact IntWalk.i64_in _ (by omega)
    have e3:IntKind.i64.wrap ((p:Int).tmod (q:Int))=((p % q:Nat):Int):=by rw [Int.tmod_eq_emod_of_nonneg (by omega)]; exact e2
    go_wp2
    go_roundw
    case rel=>exact ⟨q,p % q,by go_num,by first | rfl | go_num,hJ (by rw [←hg.out,Nat.gcd_comm p q,Nat.gcd_rec q p]; exact Nat.gcd_comm _ _),by omega,by omega,by first | rfl | trivial⟩
    case measure=>simp [intOf]; omega
/-- What Make returns: x / g, y / g, d / g. -/
def MkR (x y d X Y D:Int):Prop:=∃ g:Int,0 < g∧x=g*X∧y=g*Y∧d=g*D∧(D∣X→D∣Y→D=1)
theorem mkR_of {x y d:Int} (hd:0 < d):∃ g X Y D:Int,0 < g∧((Nat.gcd (Nat.gcd x.natAbs y.natAbs) d.natAbs:Nat):Int)=g∧x=g*X∧y=g*Y∧d=g*D∧0 < D∧MkR x y d X Y D:=by
 obtain ⟨G,hG⟩:∃ g,Nat.gcd (Nat.gcd x.natAbs y.natAbs) d.natAbs=g:=⟨_,rfl⟩
 have g0:0 < G:=by rw [←hG]; exact Nat.gcd_pos_of_pos_right _ (by omega)
 obtain ⟨X,hX⟩:(G:Int)∣x:=Int.ofNat_dvd_left.2 (by rw [←hG]; exact Nat.dvd_trans (Nat.gcd_dvd_left _ _) (Nat.gcd_dvd_left _ _))
 obtain ⟨Y,hY⟩:(G:Int)∣y:=Int.ofNat_dvd_left.2 (by rw [←hG]; exact Nat.dvd_trans (Nat.gcd_dvd_left _ _) (Nat.gcd_dvd_right _ _))
 obtain ⟨D,hD⟩:(G:Int)∣d:=Int.ofNat_dvd_left.2 (by rw [←hG]; exact Nat.gcd_dvd_right _ _)
 have D0:0 < D:=Int.pos_of_mul_pos_right (show 0 < (G:Int)*D by rw [←hD]; exact hd) (by omega)
 refine ⟨G,X,Y,D,by omega,by rw [hG],hX,hY,hD,D0,G,by omega,hX,hY,hD,fun h1 h2=>?_⟩
 obtain ⟨u,hu⟩:=h1
 obtain ⟨v,hv⟩:=h2
 have dx:(G*D.natAbs)∣x.natAbs:=⟨u.natAbs,by rw [hX,hu,Int.natAbs_mul,Int.natAbs_mul,Int.natAbs_natCast,Nat.mul_assoc]⟩
 have dy:(G*D.natAbs)∣y.natAbs:=⟨v.natAbs,by rw [hY,hv,Int.natAbs_mul,Int.natAbs_mul,Int.natAbs_natCast,Nat.mul_assoc]⟩
 have dd:(G*D.natAbs)∣d.natAbs:=⟨1,by rw [hD,Int.natAbs_mul,Int.natAbs_natCast,Nat.mul_one]⟩
 have dg:(G*D.natAbs)∣G:=by
  have:=Nat.dvd_gcd (Nat.dvd_gcd dx dy) dd
  rwa [hG] at this
 have hle:=Nat.le_of_dvd g0 dg
 have:D.natAbs≤1:=Nat.le_of_mul_le_mul_left (show G*D.natAbs≤G*1 by omega) g0
 omega
theorem quo_in {g X:Int} (hg:0 < g) (h : -1099511627776≤g*X∧g*X≤1099511627776):IntKind.i64.wrap ((g*X).tdiv g)=X∧(-1099511627776≤X∧X≤1099511627776):=by
 have e:(g*X).tdiv g=X:=by rw [Int.mul_comm]; exact Int.mul_tdiv_cancel _ (by omega)
 have b:X.natAbs≤(g*X).natAbs:=by rw [Int.natAbs_mul]; exact Nat.le_mul_of_pos_left _ (by omega)
 have b2 : -1099511627776≤X∧X≤1099511627776:=by omega
 rw [e]
 exact ⟨IntWalk.i64_in _ (by omega),b2⟩
theorem make_any (x y d:Int) (w:World) (hd0:0 < d) (hx : -1099511627776≤x∧x≤1099511627776) (hy : -1099511627776≤y∧y≤1099511627776) (hd : -1099511627776≤d∧d≤1099511627776) :
  Calls Tryz.prog 29 #[.int .i64 x,.int .i64 y,.int .i64 d] w fun e w'=>∃ X Y D:Int,e=.returned (.agg #[.int .i64 X,.int .i64 Y,.int .i64 D])∧MkR x y d X Y D∧0 < D∧Below w.heap.size w w':=by
 obtain ⟨g,X,Y,D,g0,hg,rfl,rfl,rfl,D0,hR⟩:=mkR_of (x:=x) (y:=y) (d:=d) hd0
 have HR:=hJ hR
 have HB:=hJ (And.intro hx (And.intro hy hd))
 have HG:=hJ hg
 have aD:=hJ (show -1099511627776≤((Nat.gcd (g*X).natAbs (g*Y).natAbs:Nat):Int)∧((Nat.gcd (g*X).natAbs (g*Y).natAbs:Nat):Int)≤1099511627776 by
  refine ⟨by omega,?_⟩
  by_cases h0:(g*X).natAbs=0
  ·rw [h0,Nat.gcd_zero_left]; omega
  have:=Nat.le_of_dvd (by omega) (Nat.gcd_dvd_left (g*X).natAbs (g*Y).natAbs); omega)
 obtain ⟨e1,b1⟩:=quo_in g0 hx
 obtain ⟨e2,b2⟩:=quo_in g0 hy
 obtain ⟨e3,b3⟩:=quo_in g0 hd
 obtain ⟨x',hx'⟩:=nmz (g*X)
 obtain ⟨y',hy'⟩:=nmz (g*Y)
 obtain ⟨d',hd'⟩:=nmz (g*D)
 have HE:=hJ (And.intro e1 (And.intro e2 e3))
 rw [hx',hy',hd'] at HE
 rw [hx',hy',hd'] at HR
 rw [hx',hy',hd'] at HB
 rw [hx',hy',hd'] at HG
 rw [hx',hy'] at aD
 rw [hx',hy',hd']
 have hd9:0 < d':=by rw [←hd']; exact hd0
 have hg9:g≠0:=by omega
 clear hR hx hy hd hd0 e1 e2 e3 b1 b2 b3 hx' hy' hd' hg
 obtain ⟨W,hW⟩:∃ W,w.alloc (.cells #[.int .i64 0,.int .i64 0,.int .i64 0] 47)=W:=⟨_,rfl⟩
 have HK:=hJ (show Below w.heap.size w W by rw [←hW]; exact (Below.refl _ w).alloc (Nat.le_refl _) _)
 have HZ:=hJ (show P3 47 W w.heap.size (.int .i64 0) (.int .i64 0) (.int .i64 0) by rw [←hW]; exact P3.lit _ _ _ _ _)
 obtain ⟨h,hh⟩:∃ h,w.heap.size=h:=⟨_,rfl⟩
 rw [hh] at HZ
 have HH:=hJ hh
 go_enter Tryz.func29,Tryz.ntmps29
 go_wp2_with fail
 clear hh
 refine (rcommon_any x' y' W HB.out.1 HB.out.2.1).mono ?_
 rintro e w1 ⟨rfl,rfl⟩
 go_wp2_with fail
 refine (rcommon_any _ d' W aD.out HB.out.2.2).mono ?_
 rw [Int.natAbs_natCast,HG.out]
 rintro e w1 ⟨rfl,rfl⟩
 have q1:=HE.out.1
 have q2:=HE.out.2.1
 have q3:=HE.out.2.2
 go_upto_region 6 with fail
 clear hW
 have aG:=hJ HK.out
 obtain ⟨v0,hv0⟩:=nmz (World.drew W)
 have aB:=hJ (show Below W.heap.size W v0 by rw [←hv0]; exact (Below.refl _ _).drew)
 have aC:=hJ (bt aG.out aB.out)
 have aA:=hJ (HZ.out.new aB.out)
 refine wp_region_held_drew (S:=(fun w':World=>Below w.heap.size w w')) (by kernel_rfl) ?_ (fun hHeld=>?_)
 ·rw [hv0]
  exact aC.out
 rw [hv0] at hHeld ⊢
 clear hv0 aB
 refine tq 0 ?_
 refine tq 1 ?_
 refine tq 2 ?_
 refine tq 3 ?_
 refine tq 4 ?_
 refine tq 5 ?_
 refine tq 6 ?_
 refine tq 7 ?_
 refine tq 8 ?_
 refine tq 9 ?_
 try simp only [PT]
 refine ryy [10] ?_
 refine .cons rfl (fun K hK=>?_) .nil
 obtain ⟨z0,z1,z2⟩:=aA.out.cells
 have y0:=aA.out.frozen 0
 have y1:=aA.out.frozen 1
 have y2:=aA.out.frozen 2
 have z9:=aA.out.lt
 go_simp
 obtain ⟨v1,hV⟩:=nmz (World.setCell (World.setCell (World.setCell v0 ⟨h,0,none⟩ (.int .i64 X)) ⟨h,1,none⟩ (.int .i64 Y)) ⟨h,2,none⟩ (.int .i64 D))
 rw [hV]
 have aF:=hJ (show Below w.heap.size w v1 by rw [←hV]; exact below_box3 aC.out ((show w.heap.size≤h by rw [HH.out]; exact Nat.le_refl _)) _ _ _)
 have aH:=hJ (show P3 47 v1 h (.int .i64 X) (.int .i64 Y) (.int .i64 D) by rw [←hV]; exact aA.out.all (.int .i64 X) (.int .i64 Y) (.int .i64 D))
 clear hHeld
 refine hK.out _ _ (aF.out) (fun hHeld=>?_)
 clear hK K hV z9 z0 z1 z2 y0 y1 y2 aC aA
 try simp only [PT]
 refine wpAnyH_done (by kernel_rfl) ?_ _
 clear hHeld
 have HF:=hJ aH.out
 have aI:=hJ aF.out
 go_wp2_with fail
 exact bodyPost_ret (results_cell_row rfl _ _ _ _ _ _ _ rfl HF.out Tryz.underlying47 rfl R_size) rfl ⟨X,Y,D,rfl,HR.out,D0,aI.out⟩
/-- A point of the law's own: small numbers in lowest terms. -/
def Sm (X Y D:Int):Prop:=(0 < D∧D≤12)∧(-400≤X∧X≤400)∧(-400≤Y∧Y≤400)∧(D∣X→D∣Y→D=1)
theorem mul_abs_le {g X:Int} (hg:0 < g):X.natAbs≤(g*X).natAbs:=by rw [Int.natAbs_mul]; exact Nat.le_mul_of_pos_left _ (by omega)
theorem sm_of {x y d X Y D:Int} (h:MkR x y d X Y D) (hD:0 < D) (hx : -400≤x∧x≤400) (hy : -400≤y∧y≤400) (hd:d≤12) (hd0:0 < d):Sm X Y D:=by
 obtain ⟨g,hg,rfl,rfl,rfl,hl⟩:=h
 have h1:=mul_abs_le (X:=X) hg
 have h2:=mul_abs_le (X:=Y) hg
 have h3:=mul_abs_le (X:=D) hg
 exact ⟨⟨hD,by omega⟩,⟨by omega,by omega⟩,⟨by omega,by omega⟩,hl⟩
theorem dens_lit (w:World) (t:TypeId) (j:Nat) (hj:j < 8):∃ d:Int,(w.alloc (.cells #[.int .i64 1,.int .i64 1,.int .i64 1,.int .i64 2,.int .i64 2,.int .i64 3,.int .i64 5,.int .i64 12] t)).cell? ⟨w.heap.size,j,none⟩=some (.int .i64 d)∧(1≤d∧d≤12):=by
 have hh:=heap_alloc_new w (.cells #[.int .i64 1,.int .i64 1,.int .i64 1,.int .i64 2,.int .i64 2,.int .i64 3,.int .i64 5,.int .i64 12] t)
 match j,hj with
 | 0,_=>exact ⟨1,(cell_of_row _ _ _ _ t (0,0) hh).trans rfl,by decide⟩
 | 1,_=>exact ⟨1,(cell_of_row _ _ _ _ t (0,0) hh).trans rfl,by decide⟩
 | 2,_=>exact ⟨1,(cell_of_row _ _ _ _ t (0,0) hh).trans rfl,by decide⟩
 | 3,_=>exact ⟨2,(cell_of_row _ _ _ _ t (0,0) hh).trans rfl,by decide⟩
 | 4,_=>exact ⟨2,(cell_of_row _ _ _ _ t (0,0) hh).trans rfl,by decide⟩
 | 5,_=>exact ⟨3,(cell_of_row _ _ _ _ t (0,0) hh).trans rfl,by decide⟩
 | 6,_=>exact ⟨5,(cell_of_row _ _ _ _ t (0,0) hh).trans rfl,by decide⟩
 | 7,_=>exact ⟨12,(cell_of_row _ _ _ _ t (0,0) hh).trans rfl,by decide⟩
theorem P2.far3 {t:TypeId} {w:World} {b:Nat} {x0 x1:Value} (h:P2 t w b x0 x1) {g:Nat} (hg:b≠g) (u0 u1 u2:Value):P2 t (((w.setCell ⟨g,0,none⟩ u0).setCell ⟨g,1,none⟩ u1).setCell ⟨g,2,none⟩ u2) b x0 x1:=((h.far (p:=⟨g,0,none⟩) hg u0).far (p:=⟨g,1,none⟩) hg u1).far (p:=⟨g,2,none⟩) hg u2
theorem some_any (n:Int) (w:World) (hn:(Lit.int .i64 n).wf=true) :
  Calls Tryz.prog 28 #[.int .i64 n] w fun e w'=>∃ X Y D,e=.returned (.agg #[.int .i64 X,.int .i64 Y,.int .i64 D])∧Sm X Y D∧Below w.heap.size w w':=by
 have HN:=hJ hn
 clear hn
 obtain ⟨W,hW⟩:∃ W,w.alloc (.cells #[.int .i64 0,.int .i64 0,.int .i64 0] 47)=W:=⟨_,rfl⟩
 have HK:=hJ (show Below w.heap.size w W by rw [←hW]; exact (Below.refl _ w).alloc (Nat.le_refl _) _)
 have HZ:=hJ (show P3 47 W w.heap.size (.int .i64 0) (.int .i64 0) (.int .i64 0) by rw [←hW]; exact P3.lit _ _ _ _ _)
 obtain ⟨h,hh⟩:∃ h,w.heap.size=h:=⟨_,rfl⟩
 rw [hh] at HZ
 have HH:=hJ hh
 go_enter Tryz.func28,Tryz.ntmps28
 go_wp2_with fail
 clear hh
 refine (aroundz_any n 1048576 W (by decide) (by decide) HN.out).mono ?_
 rintro e w1 ⟨rfl,rfl⟩
 obtain ⟨hk0,hk1⟩:=aroundZ_in n (n:=1048576) (by decide)
 obtain ⟨k,hk⟩:∃ k,aroundZ n 1048576=k:=⟨_,rfl⟩
 rw [hk] at hk0 hk1 ⊢
 have aT:=hJ (And.intro hk0 hk1)
 clear hk
 have e1:IntKind.i64.wrap (k / 8)=k / 8:=IntWalk.i64_in _ (by omega)
 go_wp2_with fail
 clear hW
 refine (grid_any (k / 8) W (WalkArith.wf_i64 (by omega))).mono ?_
 rintro e w2 ⟨px,py,rfl,cx,cy,hb2⟩
 have HC:=hJ (And.intro cx cy)
 have aU:=hJ hb2
 have aV:=hJ HZ.out
 obtain ⟨w3,hw3⟩:=nmz (w2.alloc (.cells #[.int .i64 px,.int .i64 py] 23))
 have HQ:=hJ (show P2 23 w3 w2.heap.size (.int .i64 px) (.int .i64 py) by rw [←hw3]; exact P2.lit _ _ _ _)
 have aL:=hJ (show Below W.heap.size W w3 by rw [←hw3]; exact bt hb2 ((Below.refl _ _).alloc (Nat.le_refl _) _))
 obtain ⟨w4,hw4⟩:=nmz (w3.alloc (.cells #[.int .i64 1,.int .i64 1,.int .i64 1,.int .i64 2,.int .i64 2,.int .i64 3,.int .i64 5,.int .i64 12] 3))
 obtain ⟨j,hj⟩:∃ j:Nat,k % 8=(j:Int):=⟨(k % 8).toNat,by omega⟩
 have hj8:j < 8:=by omega
 obtain ⟨d,hd,hd1⟩:=dens_lit w3 3 j hj8
 rw [hw4] at hd
 have aH:=hJ (show P2 23 w4 w2.heap.size (.int .i64 px) (.int .i64 py) by rw [←hw4]; exact HQ.out.new ((Below.refl _ _).alloc (Nat.le_refl _) _))
 have aI:=hJ (show Below W.heap.size W w4 by rw [←hw4]; exact bt aL.out ((Below.refl _ _).alloc (Nat.le_refl _) _))
 have aM:=hJ (HZ.out.new aI.out)
 have aN:=hJ (bt HK.out aI.out)
 have HD:=hJ hd1
 clear cx cy hb2 HQ aL HZ hd1 aI
 have hj0:(0:Int)≤(j:Int):=by omega
 have hj9:(j:Int) < 8:=by omega
 have hj7:IntKind.i64.wrap (j:Int)=(j:Int):=IntWalk.i64_in _ (by omega)
 obtain ⟨gq,hgq⟩:∃ g,w2.heap.size=g:=⟨_,rfl⟩
 rw [hgq] at aH
 have aW:=hJ (show gq≠h by have h9:=aU.out.size; have h8:=aV.out.lt; omega)
 by_cases h1:d=1
 ·subst h1
  obtain ⟨a0,a1⟩:=aH.out.cells
  go_wp2_with fail
  clear hw3 hw4 hgq
  refine (rof_any px py w4).mono ?_
  rintro e w5 ⟨rfl,hb5⟩
  have aB:=hJ (aM.out.new hb5)
  have aX:=hJ (bt aN.out hb5)
  clear hb5 a0 a1 hd
  obtain ⟨z0,z1,z2⟩:=aB.out.cells
  have f0:=aB.out.frozen 0
  have f1:=aB.out.frozen 1
  have f2:=aB.out.frozen 2
  go_wp2_with fail
  exact bodyPost_ret (results_cell_row rfl _ _ _ _ _ _ _ rfl (aB.out.all (.int .i64 px) (.int .i64 py) (.int .i64 1)) Tryz.underlying47 rfl R_size) rfl ⟨px,py,1,rfl,⟨⟨by decide,by decide⟩,⟨by have:=HC.out.1.1; omega,by have:=HC.out.1.2; omega⟩,⟨by have:=HC.out.2.1; omega,by have:=HC.out.2.2; omega⟩,fun _ _=>rfl⟩,below_box3 aX.out (by rw [HH.out]; exact Nat.le_refl _) _ _ _⟩
 ·have hd2:(d == 1)=false:=by simp [h1]
  have hda:1≤d:=HD.out.1
  have hdb:d≤12:=HD.out.2
  have m1:0≤px*d∧px*d≤384:=⟨Int.mul_nonneg HC.out.1.1 (by omega),by have:=Int.mul_le_mul HC.out.1.2 hdb (by omega) (show (0:Int)≤32 by decide); omega⟩
  have m2:0≤py*d∧py*d≤384:=⟨Int.mul_nonneg HC.out.2.1 (by omega),by have:=Int.mul_le_mul HC.out.2.2 hdb (by omega) (show (0:Int)≤32 by decide); omega⟩
  have hk2:=aT.out
  have r1:0≤k / 64 % d∧k / 64 % d < d:=⟨Int.emod_nonneg _ (by omega),Int.emod_lt_of_pos _ (by omega)⟩
  have r2:0≤k / 256 % d∧k / 256 % d < d:=⟨Int.emod_nonneg _ (by omega),Int.emod_lt_of_pos _ (by omega)⟩
  have g1:0≤k / 64:=by omega
  have g2:0≤k / 256:=by omega
  have e2:IntKind.i64.wrap (px*d)=px*d:=IntWalk.i64_in _ (by omega)
  have e3:IntKind.i64.wrap (py*d)=py*d:=IntWalk.i64_in _ (by omega)
  have e4:IntKind.i64.wrap (k / 64)=k / 64:=IntWalk.i64_in _ (by omega)
  have e5:IntKind.i64.wrap (k / 256)=k / 256:=IntWalk.i64_in _ (by omega)
  have e6:IntKind.i64.wrap (k / 64 % d)=k / 64 % d:=IntWalk.i64_in _ (by omega)
  have e7:IntKind.i64.wrap (k / 256 % d)=k / 256 % d:=IntWalk.i64_in _ (by omega)
  have e8:IntKind.i64.wrap (px*d - k / 64 % d)=px*d - k / 64 % d:=IntWalk.i64_in _ (by omega)
  have e9:IntKind.i64.wrap (py*d - k / 256 % d)=py*d - k / 256 % d:=IntWalk.i64_in _ (by omega)
  have HM:=hJ (show (-400≤px*d - k / 64 % d∧px*d - k / 64 % d≤400)∧(-400≤py*d - k / 256 % d∧py*d - k / 256 % d≤400) from ⟨⟨by omega,by omega⟩,by omega,by omega⟩)
  have hdn:d≠0:=by omega
  have hk3:0≤k:=hk2.1
  clear m1 m2 r1 r2 h1 hdb hk2
  go_wp2_with fail
  clear hw3 hw4 hgq hd hj
  have aY:=hJ aN.out
  obtain ⟨v0,hv0⟩:=nmz (World.drew w4)
  have aC:=hJ (show Below w4.heap.size w4 v0 by rw [←hv0]; exact (Below.refl _ _).drew)
  have aJ:=hJ (bt aY.out aC.out)
  have aO:=hJ (aM.out.new aC.out)
  have aD:=hJ (aH.out.new aC.out)
  refine wp_region_held_drew (S:=(fun w':World=>w'.cell? ⟨gq,0,none⟩=some (.int .i64 px)∧w'.cell? ⟨gq,1,none⟩=some (.int .i64 py)∧Below w.heap.size w w')) (by kernel_rfl) ?_ (fun hHeld=>?_)
  ·rw [hv0]
   exact ⟨aD.out.cells.1,aD.out.cells.2,aJ.out⟩
  rw [hv0] at hHeld ⊢
  clear hv0 aC
  refine tq 0 ?_
  refine tq 1 ?_
  refine tq 2 ?_
  refine tq 3 ?_
  refine tq 4 ?_
  refine tq 5 ?_
  refine tq 6 ?_
  refine tq 7 ?_
  refine tq 8 ?_
  refine tq 9 ?_
  refine tq 10 ?_
  refine tq 11 ?_
  refine tq 12 ?_
  refine tq 13 ?_
  refine tq 14 ?_
  refine tq 15 ?_
  refine tq 16 ?_
  refine tq 17 ?_
  refine tq 18 ?_
  try simp only [PT]
  refine ryy [19] ?_
  refine .cons rfl (fun K hK=>?_) .nil
  go_simp
  go_at_call 29
  rw [show k.tdiv 64=k / 64 from Int.tdiv_eq_ediv_of_nonneg hk3,show k.tdiv 256=k / 256 from Int.tdiv_eq_ediv_of_nonneg hk3,e4,e5,show (k / 64).tmod d=k / 64 % d from Int.tmod_eq_emod_of_nonneg g1,show (k / 256).tmod d=k / 256 % d from Int.tmod_eq_emod_of_nonneg g2,e8,e9]
  refine (make_any (px*d - k / 64 % d) (py*d - k / 256 % d) d v0 (by omega) ⟨by have:=HM.out; omega,by have:=HM.out; omega⟩ ⟨by have:=HM.out; omega,by have:=HM.out; omega⟩ ⟨by omega,by have:=HD.out; omega⟩).mono ?_
  rintro e v1 ⟨X,Y,D,rfl,hmk,hD0,hk⟩
  have aZ:=hJ (sm_of hmk hD0 HM.out.1 HM.out.2 HD.out.2 (by omega))
  clear hmk hD0
  have aF:=hJ hk
  go_wp2_with fail
  have aK:=hJ (bt aJ.out aF.out)
  have aA:=hJ (aO.out.new aF.out)
  have aG:=hJ (aD.out.new aF.out)
  clear hHeld
  refine hK.out _ _ (⟨aG.out.cells.1,aG.out.cells.2,aK.out⟩) (fun hHeld=>?_)
  clear hK K hk aF aJ aO aD
  try simp only [PT]
  refine ryy [20] ?_
  refine .cons rfl (fun K hK=>?_) .nil
  obtain ⟨z0,z1,z2⟩:=aA.out.cells
  have y0:=aA.out.frozen 0
  have y1:=aA.out.frozen 1
  have y2:=aA.out.frozen 2
  have z9:=aA.out.lt
  go_simp
  obtain ⟨v2,hV⟩:=nmz (World.setCell (World.setCell (World.setCell v1 ⟨h,0,none⟩ (.int .i64 X)) ⟨h,1,none⟩ (.int .i64 Y)) ⟨h,2,none⟩ (.int .i64 D))
  rw [hV]
  have aR:=hJ (show Below w.heap.size w v2 by rw [←hV]; exact below_box3 aK.out ((show w.heap.size≤h by rw [HH.out]; exact Nat.le_refl _)) _ _ _)
  have aS:=hJ (show P2 23 v2 gq (.int .i64 px) (.int .i64 py) by rw [←hV]; exact aG.out.far3 (show gq≠h from aW.out) (.int .i64 X) (.int .i64 Y) (.int .i64 D))
  have bA:=hJ (show P3 47 v2 h (.int .i64 X) (.int .i64 Y) (.int .i64 D) by rw [←hV]; exact aA.out.all (.int .i64 X) (.int .i64 Y) (.int .i64 D))
  clear hHeld
  refine hK.out _ _ (⟨aS.out.cells.1,aS.out.cells.2,aR.out⟩) (fun hHeld=>?_)
  clear hK K hV z9 z0 z1 z2 y0 y1 y2 aK aG aA
  try simp only [PT]
  refine wpAnyH_done (by kernel_rfl) ?_ _
  clear hHeld
  have HF:=hJ bA.out
  have bB:=hJ aR.out
  go_wp2_with fail
  exact bodyPost_ret (results_cell_row rfl _ _ _ _ _ _ _ rfl HF.out Tryz.underlying47 rfl R_size) rfl ⟨X,Y,D,rfl,aZ.out,bB.out⟩
theorem rsign_any (n:Int) (w:World) :
  Calls Tryz.prog 127 #[.int .i64 n] w fun e w'=>e=.returned (.int .i64 (cmpI n 0))∧w=w':=by
 rcases cmpI_cases n 0 with ⟨h,hv⟩ | ⟨h,hv⟩ | ⟨h,hv⟩
 all_goals
  rw [hv]
  clear hv
  try subst h
  go_enter Tryz.func127,Tryz.ntmps127
  go_wp2
  go_ret
  exact ⟨rfl,rfl⟩
theorem cmpI_sub (a b:Int):cmpI (a - b) 0=cmpI a b:=by unfold cmpI; split <;> split <;> (try split) <;> (try split) <;> omega
theorem mul_in {a b:Int} {m n:Nat} (ha:a.natAbs≤m) (hb:b.natAbs≤n):(a*b).natAbs≤m*n:=by rw [Int.natAbs_mul]; exact Nat.mul_le_mul ha hb
/-- The order of two points of the reference. -/
def rcV (X Y D X' Y' D':Int):Int:=if cmpI (X*D') (X'*D)=0 then cmpI (Y*D') (Y'*D) else cmpI (X*D') (X'*D)
/-- Small enough. -/
def Sb (X Y D:Int):Prop:=(0 < D∧D≤12)∧(-400≤X∧X≤400)∧(-400≤Y∧Y≤400)
theorem Sm.sb {X Y D:Int} (h:Sm X Y D):Sb X Y D:=⟨h.1,h.2.1,h.2.2.1⟩
theorem rcmp_any (X Y D X' Y' D':Int) (w:World) (h:Sb X Y D) (h':Sb X' Y' D') :
  Calls Tryz.prog 88 #[.agg #[.int .i64 X,.int .i64 Y,.int .i64 D],.agg #[.int .i64 X',.int .i64 Y',.int .i64 D']] w fun e w'=>e=.returned (.int .i64 (rcV X Y D X' Y' D'))∧Below w.heap.size w w':=by
 obtain ⟨⟨d0,d1⟩,⟨x0,x1⟩,y0,y1⟩:=h
 obtain ⟨⟨d0',d1'⟩,⟨x0',x1'⟩,y0',y1'⟩:=h'
 have m1:=mul_in (show X.natAbs≤400 by omega) (show D'.natAbs≤12 by omega)
 have m2:=mul_in (show X'.natAbs≤400 by omega) (show D.natAbs≤12 by omega)
 have m3:=mul_in (show Y.natAbs≤400 by omega) (show D'.natAbs≤12 by omega)
 have m4:=mul_in (show Y'.natAbs≤400 by omega) (show D.natAbs≤12 by omega)
 have e1:IntKind.i64.wrap (X*D')=X*D':=IntWalk.i64_in _ (by omega)
 have e2:IntKind.i64.wrap (X'*D)=X'*D:=IntWalk.i64_in _ (by omega)
 have e3:IntKind.i64.wrap (Y*D')=Y*D':=IntWalk.i64_in _ (by omega)
 have e4:IntKind.i64.wrap (Y'*D)=Y'*D:=IntWalk.i64_in _ (by omega)
 have e5:IntKind.i64.wrap (X*D' - X'*D)=X*D' - X'*D:=IntWalk.i64_in _ (by omega)
 have e6:IntKind.i64.wrap (Y*D' - Y'*D)=Y*D' - Y'*D:=IntWalk.i64_in _ (by omega)
 clear m1 m2 m3 m4 d0 d1 x0 x1 y0 y1 d0' d1' x0' x1' y0' y1'
 obtain ⟨W,hW⟩:∃ W,(w.alloc (.cells #[.int .i64 X,.int .i64 Y,.int .i64 D] 47)).alloc (.cells #[.int .i64 X',.int .i64 Y',.int .i64 D'] 47)=W:=⟨_,rfl⟩
 have HK:=hJ (show Below w.heap.size w W by rw [←hW]; exact ((Below.refl _ w).alloc (Nat.le_refl _) _).alloc (by simp) _)
 have HA:=hJ (show P3 47 W w.heap.size (.int .i64 X) (.int .i64 Y) (.int .i64 D) by rw [←hW]; exact (P3.lit w _ _ _ _ ).new ((Below.refl _ _).alloc (Nat.le_refl _) _))
 have HB:=hJ (show P3 47 W (w.heap.size+1) (.int .i64 X') (.int .i64 Y') (.int .i64 D') by
  rw [←hW]
  have h0:=P3.lit (w.alloc (.cells #[.int .i64 X,.int .i64 Y,.int .i64 D] 47)) 47 (.int .i64 X') (.int .i64 Y') (.int .i64 D')
  rw [World.size_alloc] at h0
  exact h0)
 obtain ⟨a0,a1,a2⟩:=HA.out.cells
 obtain ⟨b0,b1,b2⟩:=HB.out.cells
 obtain ⟨k,hk⟩:∃ k,cmpI (X*D') (X'*D)=k:=⟨_,rfl⟩
 have aA:=hJ hk
 clear hk
 go_enter Tryz.func88,Tryz.ntmps88
 go_wp2_with fail
 refine (rsign_any _ W).mono ?_
 rw [cmpI_sub,aA.out]
 rintro e w1 ⟨rfl,rfl⟩
 by_cases h0:k=0
 ·subst h0
  have HV:=hJ (show rcV X Y D X' Y' D'=cmpI (Y*D') (Y'*D) from if_pos aA.out)
  go_wp2_with fail
  refine (rsign_any _ W).mono ?_
  rw [cmpI_sub]
  rintro e w1 ⟨rfl,rfl⟩
  go_wp2_with fail
  go_ret
  exact ⟨by rw [HV.out]; rfl,HK.out⟩
 ·have HV:=hJ (show rcV X Y D X' Y' D'=k by unfold rcV; rw [aA.out,if_neg h0])
  have h1:(k == 0)=false:=by simp [h0]
  clear h0
  go_wp2_with fail
  go_ret
  exact ⟨by rw [HV.out]; rfl,HK.out⟩
/-- The nearest integer. -/
def nrV (n d:Int):Int := -((d - 2*n) / (2*d))
/-- What Whole returns. -/
def rwK (X Y D:Int):Prop:=D=1∧vdC X Y=0
instance (X Y D:Int):Decidable (rwK X Y D):=by unfold rwK; infer_instance
def rrK (X Y D:Int):Prop:=vdC (nrV X D) (nrV Y D)=0
instance (X Y D:Int):Decidable (rrK X Y D):=by unfold rrK; infer_instance
/-- Block b is just these cells, none frozen. -/
def BK (t:TypeId) (w:World) (b:Nat) (cs:Array Value):Prop:=w.heap[b]?=some (.cells cs t (0,0))
theorem BK.lit (w:World) (t:TypeId) (cs:Array Value):BK t (w.alloc (.cells cs t)) w.heap.size cs:=heap_alloc_new w _
theorem BK.lt {t:TypeId} {w:World} {b:Nat} {cs:Array Value} (h:BK t w b cs):b < w.heap.size:=(Array.getElem?_eq_some_iff.1 h).1
theorem BK.new {t:TypeId} {w w':World} {b:Nat} {cs:Array Value} (h:BK t w b cs) (hb:Below w.heap.size w w'):BK t w' b cs:=(hb.block b h.lt).trans h
theorem rmid_any (X Y D X' Y' D':Int) (w:World) (h:Sb X Y D) (h':Sb X' Y' D') :
  Calls Tryz.prog 27 #[.agg #[.int .i64 X,.int .i64 Y,.int .i64 D],.agg #[.int .i64 X',.int .i64 Y',.int .i64 D']] w fun e w'=>∃ A B C:Int,e=.returned (.agg #[.int .i64 A,.int .i64 B,.int .i64 C])∧MkR (X*D'+X'*D) (Y*D'+Y'*D) (2*(D*D')) A B C∧0 < C∧Below w.heap.size w w':=by
 obtain ⟨⟨d0,d1⟩,⟨x0,x1⟩,y0,y1⟩:=h
 obtain ⟨⟨d0',d1'⟩,⟨x0',x1'⟩,y0',y1'⟩:=h'
 have m1:=mul_in (show X.natAbs≤400 by omega) (show D'.natAbs≤12 by omega)
 have m2:=mul_in (show X'.natAbs≤400 by omega) (show D.natAbs≤12 by omega)
 have m3:=mul_in (show Y.natAbs≤400 by omega) (show D'.natAbs≤12 by omega)
 have m4:=mul_in (show Y'.natAbs≤400 by omega) (show D.natAbs≤12 by omega)
 have m5:=mul_in (show D.natAbs≤12 by omega) (show D'.natAbs≤12 by omega)
 have m6:0 < D*D':=Int.mul_pos d0 d0'
 have m7:2*D*D'=2*(D*D'):=Int.mul_assoc _ _ _
 have e1:IntKind.i64.wrap (X*D')=X*D':=IntWalk.i64_in _ (by omega)
 have e2:IntKind.i64.wrap (X'*D)=X'*D:=IntWalk.i64_in _ (by omega)
 have e3:IntKind.i64.wrap (Y*D')=Y*D':=IntWalk.i64_in _ (by omega)
 have e4:IntKind.i64.wrap (Y'*D)=Y'*D:=IntWalk.i64_in _ (by omega)
 have e5:IntKind.i64.wrap (X*D'+X'*D)=X*D'+X'*D:=IntWalk.i64_in _ (by omega)
 have e6:IntKind.i64.wrap (Y*D'+Y'*D)=Y*D'+Y'*D:=IntWalk.i64_in _ (by omega)
 have e7:IntKind.i64.wrap (2*D)=2*D:=IntWalk.i64_in _ (by omega)
 have e8:IntKind.i64.wrap (2*D*D')=2*D*D':=IntWalk.i64_in _ (by omega)
 have HM:=hJ (show 0 < 2*(D*D')∧(-1099511627776≤X*D'+X'*D∧X*D'+X'*D≤1099511627776)∧(-1099511627776≤Y*D'+Y'*D∧Y*D'+Y'*D≤1099511627776)∧(-1099511627776≤2*(D*D')∧2*(D*D')≤1099511627776) from ⟨by omega,by omega,by omega,by omega⟩)
 have M7:=hJ m7
 clear m1 m2 m3 m4 m5 m6 m7 d0 d1 x0 x1 y0 y1 d0' d1' x0' x1' y0' y1'
 obtain ⟨W,hW⟩:∃ W,((w.alloc (.cells #[.int .i64 X,.int .i64 Y,.int .i64 D] 47)).alloc (.cells #[.int .i64 X',.int .i64 Y',.int .i64 D'] 47)).alloc (.cells #[.int .i64 0,.int .i64 0,.int .i64 0] 47)=W:=⟨_,rfl⟩
 have hw1:=(Below.refl w.heap.size w).alloc (Nat.le_refl _) (.cells #[.int .i64 X,.int .i64 Y,.int .i64 D] 47)
 have hw2:=hw1.alloc hw1.size (.cells #[.int .i64 X',.int .i64 Y',.int .i64 D'] 47)
 have HK:=hJ (show Below w.heap.size w W by rw [←hW]; exact hw2.alloc hw2.size _)
 have HA:=hJ (show P3 47 W w.heap.size (.int .i64 X) (.int .i64 Y) (.int .i64 D) by rw [←hW]; exact ((P3.lit w _ _ _ _).new ((Below.refl _ _).alloc (Nat.le_refl _) _)).new ((Below.refl _ _).alloc (Nat.le_refl _) _))
 have HB:=hJ (show P3 47 W (w.heap.size+1) (.int .i64 X') (.int .i64 Y') (.int .i64 D') by
  rw [←hW]
  have h0:=(P3.lit (w.alloc (.cells #[.int .i64 X,.int .i64 Y,.int .i64 D] 47)) 47 (.int .i64 X') (.int .i64 Y') (.int .i64 D')).new ((Below.refl _ _).alloc (Nat.le_refl _) (.cells #[.int .i64 0,.int .i64 0,.int .i64 0] 47))
  simp only [World.size_alloc] at h0
  exact h0)
 have HZ:=hJ (show P3 47 W (w.heap.size+1+1) (.int .i64 0) (.int .i64 0) (.int .i64 0) by
  rw [←hW]
  have h0:=P3.lit ((w.alloc (.cells #[.int .i64 X,.int .i64 Y,.int .i64 D] 47)).alloc (.cells #[.int .i64 X',.int .i64 Y',.int .i64 D'] 47)) 47 (.int .i64 0) (.int .i64 0) (.int .i64 0)
  simp only [World.size_alloc] at h0
  exact h0)
 clear hw1 hw2
 obtain ⟨a0,a1,a2⟩:=HA.out.cells
 obtain ⟨b0,b1,b2⟩:=HB.out.cells
 go_enter Tryz.func27,Tryz.ntmps27
 go_wp2_with fail
 clear hW
 rw [M7.out]
 refine (make_any (X*D'+X'*D) (Y*D'+Y'*D) (2*(D*D')) W HM.out.1 HM.out.2.1 HM.out.2.2.1 HM.out.2.2.2).mono ?_
 rintro e w1 ⟨A,B,C,rfl,hmk,hc,hb⟩
 have aB:=hJ (And.intro hmk hc)
 have aA:=hJ (HZ.out.new hb)
 have aC:=hJ (bt HK.out hb)
 clear hmk hc hb a0 a1 a2 b0 b1 b2 e1 e2 e3 e4 e5 e6 e7 e8
 obtain ⟨z0,z1,z2⟩:=aA.out.cells
 have f0:=aA.out.frozen 0
 have f1:=aA.out.frozen 1
 have f2:=aA.out.frozen 2
 go_wp2_with fail
 exact bodyPost_ret (results_cell_row rfl _ _ _ _ _ _ _ rfl (aA.out.all (.int .i64 A) (.int .i64 B) (.int .i64 C)) Tryz.underlying47 rfl R_size) rfl ⟨A,B,C,rfl,aB.out.1,aB.out.2,below_box3 aC.out (by omega) _ _ _⟩
end Go.Proofs.YtagakcficjcfhaaGreat
