/- Contracts of the program's points: Mid's closure. Conditions: as each statement has them. -/
import Derived.Test.YtagakcficjcfhaaGreatPF
namespace Go.Proofs.YtagakcficjcfhaaGreat
set_option maxRecDepth 100000
set_option maxHeartbeats 12800000
open Go.RowKit
attribute [local go_sem ↓] Go.wp_at_zero Go.wp_at_succ
def mdP (p q r s:Int):Int:=if adC p q r s=0 then dvP (adP p q r s) (adQ p q r s) 2 1 else 0
def mdQ (p q r s:Int):Int:=if adC p q r s=0 then dvQ (adP p q r s) (adQ p q r s) 2 1 else 1
def mdC (p q r s:Int):Int:=if adC p q r s=0 then dvC (adP p q r s) (adQ p q r s) 2 1 else adC p q r s
theorem adQ_pos {p q r s:Int} (hq:0 < q) (hs:0 < s):0 < adQ p q r s:=by
 unfold adQ
 split
 ·have h1:0 < adG q s:=by
   have:=Nat.gcd_pos_of_pos_left s.natAbs (show 0 < q.natAbs by omega)
   unfold adG; omega
  have h2:adG q s≤s:=by
   have:=Nat.gcd_le_right q.natAbs (show 0 < s.natAbs by omega)
   unfold adG; omega
  have h3:0 < q / adG q s:=by
   obtain ⟨k,hk⟩:=Nat.gcd_dvd_left q.natAbs s.natAbs
   have hq2:q=adG q s*(k:Int):=by
    unfold adG
    have h3:q=(q.natAbs:Int):=by omega
    conv=>lhs; rw [h3,hk,Int.natCast_mul]
   have hk0:(k:Int)≠0:=fun e=>by rw [e,Int.mul_zero] at hq2; omega
   have:q / adG q s=(k:Int):=by
    conv=>lhs; lhs; rw [hq2]
    exact Int.mul_ediv_cancel_left _ (by omega)
   omega
  have h4:s≤adD q s:=by
   unfold adD
   have:=Int.mul_le_mul_of_nonneg_right (show (1:Int)≤q / adG q s by omega) (show 0≤s by omega)
   omega
  have h5:0 < adH p q r s∧adH p q r s≤adG q s:=by
   have e0:0 < (adG q s).natAbs:=by omega
   have e1:=Nat.gcd_pos_of_pos_right (adN p q r s).natAbs e0
   have e2:=Nat.gcd_le_right (adN p q r s).natAbs e0
   unfold adH
   omega
  have h6:1≤adD q s / adH p q r s:=(Int.le_ediv_iff_mul_le h5.1).2 (by omega)
  omega
 ·decide
theorem ad_lims {p q r s:Int}:(adP p q r s).natAbs < lim∧(adQ p q r s).natAbs < lim:=by
 unfold adP adQ
 by_cases h:adK p q r s
 ·rw [if_pos h,if_pos h]
  exact ⟨ed_lim h.2.2.1,ed_lim h.2.2.2⟩
 ·rw [if_neg h,if_neg h]
  exact ⟨by have:=one_lim; simp at this ⊢; omega,one_lim⟩
theorem mid1_any (p q r s:Int) (s0:Bool) (A0:Option Addr) (n0 c0:Nat) (t0:Bool) (B0:Option Addr) (m0 d0:Nat) (s1:Bool) (A1:Option Addr) (n1 c1:Nat) (t1:Bool) (B1:Option Addr) (m1 d1:Nat) (s2:Bool) (A2:Option Addr) (n2 c2:Nat) (t2:Bool) (B2:Option Addr) (m2 d2:Nat) (g:Nat) (w:World) (h0:PF w s0 A0 n0 c0 t0 B0 m0 d0 p q) (h1:PF w s1 A1 n1 c1 t1 B1 m1 d1 r s) (ha:P4 35 w g (.bool s2) (.slice A2 n2 c2) (.bool t2) (.slice B2 m2 d2)) (h2:PF w s2 A2 n2 c2 t2 B2 m2 d2 2 1) (hl:(0 < q∧p.natAbs < lim∧q.natAbs < lim)∧(0 < s∧r.natAbs < lim∧s.natAbs < lim)) :
  Calls Tryz.prog 73 #[.agg #[.bool s0,.slice A0 n0 c0,.bool t0,.slice B0 m0 d0,.bool s1,.slice A1 n1 c1,.bool t1,.slice B1 m1 d1],.pointer (some ⟨g,0,none⟩)] w (RetFE (mdP p q r s) (mdQ p q r s) (mdC p q r s) w):=by
 have HL:=hJ hl
 clear hl
 obtain ⟨W,hW⟩:∃ W,(w.alloc (.cells #[.bool s0,.slice A0 n0 c0,.bool t0,.slice B0 m0 d0,.bool s1,.slice A1 n1 c1,.bool t1,.slice B1 m1 d1] 101)).alloc (.cells #[.bool false,.slice none 0 0,.bool false,.slice none 0 0] 35)=W:=⟨_,rfl⟩
 have HK:=hJ (show Below w.heap.size w W by rw [←hW]; exact ((Below.refl _ w).alloc (Nat.le_refl _) _).alloc (by simp) _)
 have HA:=hJ (show P8 101 W w.heap.size (.bool s0) (.slice A0 n0 c0) (.bool t0) (.slice B0 m0 d0) (.bool s1) (.slice A1 n1 c1) (.bool t1) (.slice B1 m1 d1) by rw [←hW]; exact (P8.lit w _ _ _ _ _ _ _ _ _).new ((Below.refl _ _).alloc (Nat.le_refl _) _))
 have HZ:=hJ (show P4 35 W (w.heap.size+1) (.bool false) (.slice none 0 0) (.bool false) (.slice none 0 0) by
  rw [←hW]
  have h0:=P4.lit (w.alloc (.cells #[.bool s0,.slice A0 n0 c0,.bool t0,.slice B0 m0 d0,.bool s1,.slice A1 n1 c1,.bool t1,.slice B1 m1 d1] 101)) 35 (.bool false) (.slice none 0 0) (.bool false) (.slice none 0 0)
  rw [World.size_alloc] at h0
  exact h0)
 have H0:=hJ (h0.new HK.out)
 have H1:=hJ (h1.new HK.out)
 have H2:=hJ (h2.new HK.out)
 have HT:=hJ (ha.new HK.out)
 clear h0 h1 h2 ha
 obtain ⟨h,hh⟩:∃ h,w.heap.size=h:=⟨_,rfl⟩
 have HH:=hJ hh
 rw [hh] at HA HZ
 obtain ⟨⟨p0,p1,p2,p3⟩,p4,p5,p6,p7⟩:=HA.out.cells
 go_enter Tryz.func73,Tryz.ntmps73
 go_wp2_with fail
 clear hW hh
 refine (fadd_any p q r s s0 t0 s1 t1 A0 B0 A1 B1 n0 c0 m0 d0 n1 c1 m1 d1 W H0.out H1.out HL.out.1.1 HL.out.2.1 HL.out.1.2.1 HL.out.1.2.2 HL.out.2.2.1 HL.out.2.2.2).mono ?_
 clear H0 H1
 have aC:=hJ (And.intro (adQ_pos (p:=p) (r:=r) HL.out.1.1 HL.out.2.1) (ad_lims (p:=p) (q:=q) (r:=r) (s:=s)))
 have HM:Hid (mdP p q r s=(if adC p q r s=0 then dvP (adP p q r s) (adQ p q r s) 2 1 else 0)∧mdQ p q r s=(if adC p q r s=0 then dvQ (adP p q r s) (adQ p q r s) 2 1 else 1)∧mdC p q r s=(if adC p q r s=0 then dvC (adP p q r s) (adQ p q r s) 2 1 else adC p q r s)):=hJ ⟨rfl,rfl,rfl⟩
 obtain ⟨P,hP⟩:=nmz (adP p q r s)
 obtain ⟨Q,hQ⟩:=nmz (adQ p q r s)
 obtain ⟨C,hC⟩:=nmz (adC p q r s)
 rw [hP,hQ] at aC HM
 rw [hC] at HM
 rw [hP,hQ,hC]
 clear hP hQ hC
 rintro e w1 ⟨s3,A3,n3,c3,t3,B3,m3,d3,rfl,hr1,hb1⟩
 obtain ⟨x1,aF⟩:=nmz (w1.alloc (.cells #[.bool s3,.slice A3 n3 c3,.bool t3,.slice B3 m3 d3] 35))
 have aG:=hJ (show Below w1.heap.size w1 x1 by rw [←aF]; exact (Below.refl _ _).alloc (Nat.le_refl _) _)
 have aI:=hJ (show P4 35 x1 w1.heap.size (.bool s3) (.slice A3 n3 c3) (.bool t3) (.slice B3 m3 d3) by rw [←aF]; exact P4.lit _ _ _ _ _ _)
 have aJ:=hJ (hr1.new aG.out)
 have aD:=hJ (bt hb1 aG.out)
 have aH:=hJ (bt HK.out aD.out)
 have aA:=hJ (HZ.out.new aD.out)
 have aK:=hJ (HT.out.new aD.out)
 have H21:=hJ (H2.out.new aD.out)
 clear hr1 hb1 p0 p1 p2 p3 p4 p5 p6 p7
 by_cases hc:C=0
 ·have HV:=hJ (show mdP p q r s=dvP P Q 2 1∧mdQ p q r s=dvQ P Q 2 1∧mdC p q r s=dvC P Q 2 1 from ⟨by rw [HM.out.1,if_pos hc],by rw [HM.out.2.1,if_pos hc],by rw [HM.out.2.2,if_pos hc]⟩)
  subst hc
  obtain ⟨a0,a1,a2,a3⟩:=aI.out.cells
  obtain ⟨b0,b1,b2,b3⟩:=aK.out.cells
  go_wp2_with fail
  refine (fdiv_any P Q 2 1 s3 t3 s2 t2 A3 B3 A2 B2 n3 c3 m3 d3 n2 c2 m2 d2 x1 aJ.out H21.out aC.out.1 (by decide) aC.out.2.1 aC.out.2.2 (i64_lim (by decide)) one_lim).mono ?_
  rintro e w3 ⟨s4,A4,n4,c4,t4,B4,m4,d4,rfl,hr3,hb3⟩
  have aL:=hJ hr3
  have aM:=hJ (bt aH.out hb3)
  have aB:=hJ (aA.out.new hb3)
  clear hr3 hb3 a0 a1 a2 a3 b0 b1 b2 b3
  obtain ⟨z0,z1,z2,z3⟩:=aB.out.cells
  have f0:=aB.out.frozen 0
  have f1:=aB.out.frozen 1
  have f2:=aB.out.frozen 2
  have f3:=aB.out.frozen 3
  go_wp2
  exact bodyPost_ret (results_cell1 rfl _ _ _ _ _ _ _ rfl (aB.out.all (.bool s4) (.slice A4 n4 c4) (.bool t4) (.slice B4 m4 d4)) Tryz.underlying35 rfl F_size) rfl (by rw [HV.out.1,HV.out.2.1,HV.out.2.2]; exact RetFE.stored aL.out aB.out aM.out (by rw [HH.out]; omega) _ _ _ _)
 ·have HV:=hJ (show mdP p q r s=0∧mdQ p q r s=1∧mdC p q r s=C from ⟨by rw [HM.out.1,if_neg hc],by rw [HM.out.2.1,if_neg hc],by rw [HM.out.2.2,if_neg hc]⟩)
  have hcb:(C == 0)=false:=by simp [hc]
  clear hc
  obtain ⟨z0,z1,z2,z3⟩:=aA.out.cells
  have f0:=aA.out.frozen 0
  have f1:=aA.out.frozen 1
  have f2:=aA.out.frozen 2
  have f3:=aA.out.frozen 3
  go_wp2
  exact bodyPost_ret (results_cell1 rfl _ _ _ _ _ _ _ rfl (aA.out.all (.bool false) (.slice none 0 0) (.bool false) (.slice none 0 0)) Tryz.underlying35 rfl F_size) rfl (by rw [HV.out.1,HV.out.2.1,HV.out.2.2]; exact RetFE.stored (p:=0) (q:=1) ⟨PI.zero _,PI.zero _⟩ aA.out aH.out (by rw [HH.out]; omega) _ _ _ _)
/-- Block b is just sixteen cells. -/
def P16 (t:TypeId) (w:World) (b:Nat) (x0 x1 x2 x3 x4 x5 x6 x7 x8 x9 x10 x11 x12 x13 x14 x15:Value):Prop:=w.heap[b]?=some (.cells #[x0,x1,x2,x3,x4,x5,x6,x7,x8,x9,x10,x11,x12,x13,x14,x15] t (0,0))
section
variable {t:TypeId} {w w':World} {b:Nat} {x0 x1 x2 x3 x4 x5 x6 x7 x8 x9 x10 x11 x12 x13 x14 x15:Value}
theorem P16.lt (h:P16 t w b x0 x1 x2 x3 x4 x5 x6 x7 x8 x9 x10 x11 x12 x13 x14 x15):b < w.heap.size:=(Array.getElem?_eq_some_iff.1 h).1
theorem P16.cells (h:P16 t w b x0 x1 x2 x3 x4 x5 x6 x7 x8 x9 x10 x11 x12 x13 x14 x15):(w.cell? ⟨b,0,none⟩=some x0∧w.cell? ⟨b,1,none⟩=some x1∧w.cell? ⟨b,2,none⟩=some x2∧w.cell? ⟨b,3,none⟩=some x3)∧(w.cell? ⟨b,4,none⟩=some x4∧w.cell? ⟨b,5,none⟩=some x5∧w.cell? ⟨b,6,none⟩=some x6∧w.cell? ⟨b,7,none⟩=some x7)∧(w.cell? ⟨b,8,none⟩=some x8∧w.cell? ⟨b,9,none⟩=some x9∧w.cell? ⟨b,10,none⟩=some x10∧w.cell? ⟨b,11,none⟩=some x11)∧(w.cell? ⟨b,12,none⟩=some x12∧w.cell? ⟨b,13,none⟩=some x13∧w.cell? ⟨b,14,none⟩=some x14∧w.cell? ⟨b,15,none⟩=some x15):=by
 unfold P16 at h
 refine ⟨⟨?_,?_,?_,?_⟩,⟨?_,?_,?_,?_⟩,⟨?_,?_,?_,?_⟩,?_,?_,?_,?_⟩ <;> simp [World.cell?,h]
theorem P16.new (h:P16 t w b x0 x1 x2 x3 x4 x5 x6 x7 x8 x9 x10 x11 x12 x13 x14 x15) (hb:Below w.heap.size w w'):P16 t w' b x0 x1 x2 x3 x4 x5 x6 x7 x8 x9 x10 x11 x12 x13 x14 x15:=(hb.block b h.lt).trans h
theorem P16.lit (w:World) (t:TypeId) (x0 x1 x2 x3 x4 x5 x6 x7 x8 x9 x10 x11 x12 x13 x14 x15:Value):P16 t (w.alloc (.cells #[x0,x1,x2,x3,x4,x5,x6,x7,x8,x9,x10,x11,x12,x13,x14,x15] t)) w.heap.size x0 x1 x2 x3 x4 x5 x6 x7 x8 x9 x10 x11 x12 x13 x14 x15:=heap_alloc_new w _
theorem kx0 (wx:World):(Instr.index 127 (.agg #[x0,x1,x2,x3,x4,x5,x6,x7,x8,x9,x10,x11,x12,x13,x14,x15]) (.int .i64 0)).run Tryz.prog wx=.ok (.agg #[x0,x1,x2,x3,x4,x5,x6,x7]) wx:=by
 first
  | kernel_rfl
  | simp [Instr.index,run_underlying Tryz.underlying127,asIntOf,go_sem]
theorem kx1 (wx:World):(Instr.index 127 (.agg #[x0,x1,x2,x3,x4,x5,x6,x7,x8,x9,x10,x11,x12,x13,x14,x15]) (.int .i64 1)).run Tryz.prog wx=.ok (.agg #[x8,x9,x10,x11,x12,x13,x14,x15]) wx:=by
 first
  | kernel_rfl
  | simp [Instr.index,run_underlying Tryz.underlying127,asIntOf,go_sem]
end
/-- The middle of two points (p/q, u/v) and (p'/q', u'/v'). -/
def meK (p q p' q' u v u' v':Int):Prop:=mdC p q p' q'=0∧mdC u v u' v'=0
instance (p q p' q' u v u' v':Int):Decidable (meK p q p' q' u v u' v'):=by unfold meK; infer_instance
def meC (p q p' q' u v u' v':Int):Int:=if mdC p q p' q'=0 then mdC u v u' v' else mdC p q p' q'
def meX (p q p' q' u v u' v':Int):Int:=if meK p q p' q' u v u' v' then mdP p q p' q' else 0
def meXd (p q p' q' u v u' v':Int):Int:=if meK p q p' q' u v u' v' then mdQ p q p' q' else 1
def meY (p q p' q' u v u' v':Int):Int:=if meK p q p' q' u v u' v' then mdP u v u' v' else 0
def meYd (p q p' q' u v u' v':Int):Int:=if meK p q p' q' u v u' v' then mdQ u v u' v' else 1
theorem each3_any (p q p' q' u v u' v':Int) (s0:Bool) (A0:Option Addr) (n0 c0:Nat) (t0:Bool) (B0:Option Addr) (m0 d0:Nat) (s1:Bool) (A1:Option Addr) (n1 c1:Nat) (t1:Bool) (B1:Option Addr) (m1 d1:Nat) (s2:Bool) (A2:Option Addr) (n2 c2:Nat) (t2:Bool) (B2:Option Addr) (m2 d2:Nat) (s3:Bool) (A3:Option Addr) (n3 c3:Nat) (t3:Bool) (B3:Option Addr) (m3 d3:Nat) (s6:Bool) (A6:Option Addr) (n6 c6:Nat) (t6:Bool) (B6:Option Addr) (m6 d6:Nat) (g:Nat) (w:World) (h0:PF w s0 A0 n0 c0 t0 B0 m0 d0 p q) (h1:PF w s1 A1 n1 c1 t1 B1 m1 d1 p' q') (h2:PF w s2 A2 n2 c2 t2 B2 m2 d2 u v) (h3:PF w s3 A3 n3 c3 t3 B3 m3 d3 u' v') (ha:P4 35 w g (.bool s6) (.slice A6 n6 c6) (.bool t6) (.slice B6 m6 d6)) (h6:PF w s6 A6 n6 c6 t6 B6 m6 d6 2 1) (hl:((0 < q∧p.natAbs < lim∧q.natAbs < lim)∧(0 < q'∧p'.natAbs < lim∧q'.natAbs < lim))∧(0 < v∧u.natAbs < lim∧v.natAbs < lim)∧(0 < v'∧u'.natAbs < lim∧v'.natAbs < lim)) :
  Calls Tryz.prog 72 #[.agg #[.bool s0,.slice A0 n0 c0,.bool t0,.slice B0 m0 d0,.bool s1,.slice A1 n1 c1,.bool t1,.slice B1 m1 d1,.bool s2,.slice A2 n2 c2,.bool t2,.slice B2 m2 d2,.bool s3,.slice A3 n3 c3,.bool t3,.slice B3 m3 d3],.func (.func 73) #[] #[.pointer (some ⟨g,0,none⟩)]] w (RetTT (meX p q p' q' u v u' v') (meXd p q p' q' u v u' v') (meY p q p' q' u v u' v') (meYd p q p' q' u v u' v') (meC p q p' q' u v u' v') w):=by
 have HL:=hJ hl
 clear hl
 obtain ⟨RX,e1⟩:=nmz (meX p q p' q' u v u' v')
 obtain ⟨RXd,e2⟩:=nmz (meXd p q p' q' u v u' v')
 obtain ⟨RY,e3⟩:=nmz (meY p q p' q' u v u' v')
 obtain ⟨RYd,e4⟩:=nmz (meYd p q p' q' u v u' v')
 obtain ⟨RC,e5⟩:=nmz (meC p q p' q' u v u' v')
 have aD:=hJ (And.intro e1 (And.intro e2 (And.intro e3 (And.intro e4 e5))))
 rw [e1,e2,e3,e4,e5]
 clear e1 e2 e3 e4 e5
 obtain ⟨W,hW⟩:∃ W,((w.alloc (.cells #[.bool s0,.slice A0 n0 c0,.bool t0,.slice B0 m0 d0,.bool s1,.slice A1 n1 c1,.bool t1,.slice B1 m1 d1,.bool s2,.slice A2 n2 c2,.bool t2,.slice B2 m2 d2,.bool s3,.slice A3 n3 c3,.bool t3,.slice B3 m3 d3] 127)).alloc (.cells #[.bool false,.slice none 0 0,.bool false,.slice none 0 0,.bool false,.slice none 0 0,.bool false,.slice none 0 0] 101)).alloc (.cells #[.bool false,.slice none 0 0,.bool false,.slice none 0 0,.bool false,.slice none 0 0,.bool false,.slice none 0 0] 101)=W:=⟨_,rfl⟩
 have HK:=hJ (show Below w.heap.size w W by rw [←hW]; exact (((Below.refl _ w).alloc (Nat.le_refl _) _).alloc (by simp) _).alloc (by simp; omega) _)
 have HA:=hJ (show P16 127 W w.heap.size (.bool s0) (.slice A0 n0 c0) (.bool t0) (.slice B0 m0 d0) (.bool s1) (.slice A1 n1 c1) (.bool t1) (.slice B1 m1 d1) (.bool s2) (.slice A2 n2 c2) (.bool t2) (.slice B2 m2 d2) (.bool s3) (.slice A3 n3 c3) (.bool t3) (.slice B3 m3 d3) by rw [←hW]; exact ((P16.lit w _ _ _ _ _ _ _ _ _ _ _ _ _ _ _ _ _).new ((Below.refl _ _).alloc (Nat.le_refl _) _)).new ((Below.refl _ _).alloc (Nat.le_refl _) _))
 have HZ:=hJ (show P8 101 W (w.heap.size+1) (.bool false) (.slice none 0 0) (.bool false) (.slice none 0 0) (.bool false) (.slice none 0 0) (.bool false) (.slice none 0 0) by
  rw [←hW]
  have h0:=P8.lit (w.alloc (.cells #[.bool s0,.slice A0 n0 c0,.bool t0,.slice B0 m0 d0,.bool s1,.slice A1 n1 c1,.bool t1,.slice B1 m1 d1,.bool s2,.slice A2 n2 c2,.bool t2,.slice B2 m2 d2,.bool s3,.slice A3 n3 c3,.bool t3,.slice B3 m3 d3] 127)) 101 (.bool false) (.slice none 0 0) (.bool false) (.slice none 0 0) (.bool false) (.slice none 0 0) (.bool false) (.slice none 0 0)
  rw [World.size_alloc] at h0
  exact h0.new ((Below.refl _ _).alloc (Nat.le_refl _) _))
 have HR:=hJ (show P8 101 W (w.heap.size+1+1) (.bool false) (.slice none 0 0) (.bool false) (.slice none 0 0) (.bool false) (.slice none 0 0) (.bool false) (.slice none 0 0) by
  rw [←hW]
  have h0:=P8.lit ((w.alloc (.cells #[.bool s0,.slice A0 n0 c0,.bool t0,.slice B0 m0 d0,.bool s1,.slice A1 n1 c1,.bool t1,.slice B1 m1 d1,.bool s2,.slice A2 n2 c2,.bool t2,.slice B2 m2 d2,.bool s3,.slice A3 n3 c3,.bool t3,.slice B3 m3 d3] 127)).alloc (.cells #[.bool false,.slice none 0 0,.bool false,.slice none 0 0,.bool false,.slice none 0 0,.bool false,.slice none 0 0] 101)) 101 (.bool false) (.slice none 0 0) (.bool false) (.slice none 0 0) (.bool false) (.slice none 0 0) (.bool false) (.slice none 0 0)
  rw [World.size_alloc,World.size_alloc] at h0
  exact h0)
 have H0:=hJ (h0.new HK.out)
 have H1:=hJ (h1.new HK.out)
 have H2:=hJ (h2.new HK.out)
 have H3:=hJ (h3.new HK.out)
 have H6:=hJ (h6.new HK.out)
 have HT:=hJ (ha.new HK.out)
 have hgl:g < w.heap.size:=ha.lt
 clear h0 h1 h2 h3 h6 ha
 obtain ⟨h,hh⟩:∃ h,w.heap.size=h:=⟨_,rfl⟩
 have HH:=hJ hh
 have HG:=hJ (show g < h by omega)
 rw [hh] at HA HZ HR
 clear hgl
 obtain ⟨⟨p0,p1,p2,p3⟩,⟨p4,p5,p6,p7⟩,⟨p8,p9,p10,p11⟩,p12,p13,p14,p15⟩:=HA.out.cells
 go_enter Tryz.func72,Tryz.ntmps72
 go_wp2_with fail
 clear hW hh p0 p1 p2 p3 p4 p5 p6 p7 p8 p9 p10 p11 p12 p13 p14 p15 HA
 go_loopw [11] (fun tv wr=>∃ (i:Nat) (s4:Bool) (A4:Option Addr) (n4 c4:Nat) (t4:Bool) (B4:Option Addr) (m4 d4:Nat) (s5:Bool) (A5:Option Addr) (n5 c5:Nat) (t5:Bool) (B5:Option Addr) (m5 d5:Nat),i≤2∧tv=.int .i64 (i:Int)∧P8 101 wr (h+1) (.bool false) (.slice none 0 0) (.bool false) (.slice none 0 0) (.bool false) (.slice none 0 0) (.bool false) (.slice none 0 0)∧P8 101 wr (h+1+1) (.bool s4) (.slice A4 n4 c4) (.bool t4) (.slice B4 m4 d4) (.bool s5) (.slice A5 n5 c5) (.bool t5) (.slice B5 m5 d5)∧(PF wr s0 A0 n0 c0 t0 B0 m0 d0 p q∧PF wr s1 A1 n1 c1 t1 B1 m1 d1 p' q'∧PF wr s2 A2 n2 c2 t2 B2 m2 d2 u v∧PF wr s3 A3 n3 c3 t3 B3 m3 d3 u' v'∧PF wr s6 A6 n6 c6 t6 B6 m6 d6 2 1)∧P4 35 wr g (.bool s6) (.slice A6 n6 c6) (.bool t6) (.slice B6 m6 d6)∧PF wr s4 A4 n4 c4 t4 B4 m4 d4 (if 0 < i then mdP p q p' q' else 0) (if 0 < i then mdQ p q p' q' else 1)∧PF wr s5 A5 n5 c5 t5 B5 m5 d5 (if 1 < i then mdP u v u' v' else 0) (if 1 < i then mdQ u v u' v' else 1)∧Hid ((0 < i→mdC p q p' q'=0)∧(1 < i→mdC u v u' v'=0))∧Below w.heap.size w wr) (fun tv _=>2 - (intOf tv).toNat)
 case atStart=>exact ⟨0,_,_,_,_,_,_,_,_,_,_,_,_,_,_,_,_,by omega,rfl,HZ.out,HR.out,⟨H0.out,H1.out,H2.out,H3.out,H6.out⟩,HT.out,(by rw [if_neg (show ¬ 0 < 0 by omega),if_neg (show ¬ 0 < 0 by omega)]; exact PF.zero W),(by rw [if_neg (show ¬ 1 < 0 by omega),if_neg (show ¬ 1 < 0 by omega)]; exact PF.zero W),hJ ⟨fun h=>by omega,fun h=>by omega⟩,HK.out⟩
 case round =>
  clear HZ HR HK H0 H1 H2 H3 H6 HT
  obtain ⟨i,s4,A4,n4,c4,t4,B4,m4,d4,s5,A5,n5,c5,t5,B5,m5,d5,hi,rfl,hz,hr,⟨h0,h1,h2,h3,h6⟩,ht,h4,h5,hle,hbel⟩:=hrel
  have HZ:=hJ hz
  have HR:=hJ hr
  have H0:=hJ h0
  have H1:=hJ h1
  have H2:=hJ h2
  have H3:=hJ h3
  have H6:=hJ h6
  have HT:=hJ ht
  have H4:=hJ h4
  have H5:=hJ h5
  have HB:=hJ hbel
  clear hz hr h0 h1 h2 h3 h6 ht h4 h5 hbel
  have hi3:i=0∨i=1∨i=2:=by omega
  rcases hi3 with rfl | rfl | rfl
  ·rw [if_neg (show ¬ 1 < 0 by omega),if_neg (show ¬ 1 < 0 by omega)] at H5
   have hix:=fun wx=>kx0 (x0:=.bool s0) (x1:=.slice A0 n0 c0) (x2:=.bool t0) (x3:=.slice B0 m0 d0) (x4:=.bool s1) (x5:=.slice A1 n1 c1) (x6:=.bool t1) (x7:=.slice B1 m1 d1) (x8:=.bool s2) (x9:=.slice A2 n2 c2) (x10:=.bool t2) (x11:=.slice B2 m2 d2) (x12:=.bool s3) (x13:=.slice A3 n3 c3) (x14:=.bool t3) (x15:=.slice B3 m3 d3) wx
   obtain ⟨X,hX⟩:∃ X,wr.alloc (.cells #[.bool s0,.slice A0 n0 c0,.bool t0,.slice B0 m0 d0,.bool s1,.slice A1 n1 c1,.bool t1,.slice B1 m1 d1] 101)=X:=⟨_,rfl⟩
   have aF:=hJ (show Below wr.heap.size wr X by rw [←hX]; exact (Below.refl _ _).alloc (Nat.le_refl _) _)
   have aH:=hJ (show P8 101 X wr.heap.size (.bool s0) (.slice A0 n0 c0) (.bool t0) (.slice B0 m0 d0) (.bool s1) (.slice A1 n1 c1) (.bool t1) (.slice B1 m1 d1) by rw [←hX]; exact P8.lit _ _ _ _ _ _ _ _ _ _)
   obtain ⟨⟨q0,q1,q2,q3⟩,q4,q5,q6,q7⟩:=aH.out.cells
   go_wp2_with fail
   clear hix hX
   refine (mid1_any p q p' q' s0 A0 n0 c0 t0 B0 m0 d0 s1 A1 n1 c1 t1 B1 m1 d1 s6 A6 n6 c6 t6 B6 m6 d6 g X (H0.out.new aF.out) (H1.out.new aF.out) (HT.out.new aF.out) (H6.out.new aF.out) HL.out.1).mono ?_
   obtain ⟨code,hcode⟩:=nmz (mdC p q p' q')
   have aG:=hJ hcode
   rw [hcode]
   clear hcode
   rintro e w2 ⟨s7,A7,n7,c7,t7,B7,m7,d7,rfl,hr2,hb2⟩
   have aA:=hJ (bt aF.out hb2)
   have aI:=hJ hr2
   have aJ:=hJ (HZ.out.new aA.out)
   have aC:=hJ (HR.out.new aA.out)
   have aK:=hJ (bt HB.out aA.out)
   clear hr2 hb2 q0 q1 q2 q3 q4 q5 q6 q7
   obtain ⟨⟨p0,p1,p2,p3⟩,p4,p5,p6,p7⟩:=aC.out.cells
   have f0:=aC.out.frozen 0
   have f1:=aC.out.frozen 1
   have f2:=aC.out.frozen 2
   have f3:=aC.out.frozen 3
   obtain ⟨U,hU⟩:∃ U,(((w2.setCell ⟨h+1+1,0,none⟩ (.bool s7)).setCell ⟨h+1+1,1,none⟩ (.slice A7 n7 c7)).setCell ⟨h+1+1,2,none⟩ (.bool t7)).setCell ⟨h+1+1,3,none⟩ (.slice B7 m7 d7)=U:=⟨_,rfl⟩
   have hno:NoW w2 (h+1+1):=noW_of aC.out rfl
   have hkp:Kp (· = h+1+1) w2 U:=by rw [←hU]; exact kp4 w2 (h+1+1) 0 _ _ _ _
   have aM:=hJ (show P8 101 U (h+1+1) (.bool s7) (.slice A7 n7 c7) (.bool t7) (.slice B7 m7 d7) (.bool s5) (.slice A5 n5 c5) (.bool t5) (.slice B5 m5 d5) by rw [←hU]; exact aC.out.lo _ _ _ _)
   have aB:=hJ (show P8 101 U (h+1) (.bool false) (.slice none 0 0) (.bool false) (.slice none 0 0) (.bool false) (.slice none 0 0) (.bool false) (.slice none 0 0) by rw [←hU]; exact (((aJ.out.far (p:=⟨h+1+1,0,none⟩) (by simp) _).far (p:=⟨h+1+1,1,none⟩) (by simp) _).far (p:=⟨h+1+1,2,none⟩) (by simp) _).far (p:=⟨h+1+1,3,none⟩) (by simp) _)
   have hge:g≠h+1+1:=by have:=HG.out; omega
   have aN:=hJ (show P4 35 U g (.bool s6) (.slice A6 n6 c6) (.bool t6) (.slice B6 m6 d6) by rw [←hU]; exact ((((HT.out.new aA.out).far (p:=⟨h+1+1,0,none⟩) hge _).far (p:=⟨h+1+1,1,none⟩) hge _).far (p:=⟨h+1+1,2,none⟩) hge _).far (p:=⟨h+1+1,3,none⟩) hge _)
   have H73:=hJ (PF.apart aI.out hkp hno)
   have H03:=hJ (PF.apart (H0.out.new aA.out) hkp hno)
   have H13:=hJ (PF.apart (H1.out.new aA.out) hkp hno)
   have H23:=hJ (PF.apart (H2.out.new aA.out) hkp hno)
   have H33:=hJ (PF.apart (H3.out.new aA.out) hkp hno)
   have H63:=hJ (PF.apart (H6.out.new aA.out) hkp hno)
   have aO:=hJ (PF.apart (H5.out.new aA.out) hkp hno)
   have aL:=hJ (show Below w.heap.size w U by rw [←hU]; exact below4 aK.out (by rw [HH.out]; omega) 0 _ _ _ _)
   clear hno hkp hge aI aJ aC aK aA aF aH HZ HR H0 H1 H2 H3 H4 H5 H6 HT HB
   by_cases hc:code=0
   ·subst hc
    go_wp2
    go_roundw
    case rel=>exact ⟨1,s7,A7,n7,c7,t7,B7,m7,d7,s5,A5,n5,c5,t5,B5,m5,d5,by omega,by go_num,aB.out,aM.out,⟨H03.out,H13.out,H23.out,H33.out,H63.out⟩,aN.out,(by rw [if_pos (show 0 < 1 by omega),if_pos (show 0 < 1 by omega)]; exact H73.out),(by rw [if_neg (show ¬ 1 < 1 by omega),if_neg (show ¬ 1 < 1 by omega)]; exact aO.out),hJ ⟨fun _=>aG.out,fun _=>by omega⟩,aL.out⟩
    case measure=>simp [intOf]
   have HN:=hJ hc
   have hcb:(code == 0)=false:=by simp [hc]
   have HE:=hJ (show RX=0∧RXd=1∧RY=0∧RYd=1∧RC=code by
    have hne:¬ meK p q p' q' u v u' v':=fun h=>HN.out (by rw [←aG.out]; exact h.1)
    refine ⟨by rw [←aD.out.1]; exact if_neg hne,by rw [←aD.out.2.1]; exact if_neg hne,by rw [←aD.out.2.2.1]; exact if_neg hne,by rw [←aD.out.2.2.2.1]; exact if_neg hne,?_⟩
    rw [←aD.out.2.2.2.2]
    rw [meC,if_neg (by rw [aG.out]; exact HN.out),aG.out])
   clear hc
   obtain ⟨⟨z0,z1,z2,z3⟩,z4,z5,z6,z7⟩:=aB.out.cells
   have g0:=aB.out.frozen 0
   have g1:=aB.out.frozen 1
   have g2:=aB.out.frozen 2
   have g3:=aB.out.frozen 3
   have g4:=aB.out.frozen 4
   have g5:=aB.out.frozen 5
   have g6:=aB.out.frozen 6
   have g7:=aB.out.frozen 7
   go_wp2
   exact bodyPost_ret (results_cell1 rfl _ _ _ _ _ _ _ rfl (aB.out.all (.bool false) (.slice none 0 0) (.bool false) (.slice none 0 0) (.bool false) (.slice none 0 0) (.bool false) (.slice none 0 0)) Tryz.underlying101 rfl T8_size) rfl (by rw [HE.out.1,HE.out.2.1,HE.out.2.2.1,HE.out.2.2.2.1,HE.out.2.2.2.2]; exact ⟨_,_,_,_,_,_,_,_,_,_,_,_,_,_,_,_,rfl,PF.zero _,PF.zero _,below8 aL.out (by rw [HH.out]; omega) _ _ _ _ _ _ _ _⟩)
  ·rw [if_pos (show 0 < 1 by omega),if_pos (show 0 < 1 by omega)] at H4
   have hix:=fun wx=>kx1 (x0:=.bool s0) (x1:=.slice A0 n0 c0) (x2:=.bool t0) (x3:=.slice B0 m0 d0) (x4:=.bool s1) (x5:=.slice A1 n1 c1) (x6:=.bool t1) (x7:=.slice B1 m1 d1) (x8:=.bool s2) (x9:=.slice A2 n2 c2) (x10:=.bool t2) (x11:=.slice B2 m2 d2) (x12:=.bool s3) (x13:=.slice A3 n3 c3) (x14:=.bool t3) (x15:=.slice B3 m3 d3) wx
   obtain ⟨X,hX⟩:∃ X,wr.alloc (.cells #[.bool s2,.slice A2 n2 c2,.bool t2,.slice B2 m2 d2,.bool s3,.slice A3 n3 c3,.bool t3,.slice B3 m3 d3] 101)=X:=⟨_,rfl⟩
   have aF:=hJ (show Below wr.heap.size wr X by rw [←hX]; exact (Below.refl _ _).alloc (Nat.le_refl _) _)
   have aH:=hJ (show P8 101 X wr.heap.size (.bool s2) (.slice A2 n2 c2) (.bool t2) (.slice B2 m2 d2) (.bool s3) (.slice A3 n3 c3) (.bool t3) (.slice B3 m3 d3) by rw [←hX]; exact P8.lit _ _ _ _ _ _ _ _ _ _)
   obtain ⟨⟨q0,q1,q2,q3⟩,q4,q5,q6,q7⟩:=aH.out.cells
   go_wp2_with fail
   clear hix hX
   refine (mid1_any u v u' v' s2 A2 n2 c2 t2 B2 m2 d2 s3 A3 n3 c3 t3 B3 m3 d3 s6 A6 n6 c6 t6 B6 m6 d6 g X (H2.out.new aF.out) (H3.out.new aF.out) (HT.out.new aF.out) (H6.out.new aF.out) HL.out.2).mono ?_
   obtain ⟨code,hcode⟩:=nmz (mdC u v u' v')
   have aG:=hJ hcode
   rw [hcode]
   clear hcode
   rintro e w2 ⟨s7,A7,n7,c7,t7,B7,m7,d7,rfl,hr2,hb2⟩
   have aA:=hJ (bt aF.out hb2)
   have aI:=hJ hr2
   have aJ:=hJ (HZ.out.new aA.out)
   have aC:=hJ (HR.out.new aA.out)
   have aK:=hJ (bt HB.out aA.out)
   clear hr2 hb2 q0 q1 q2 q3 q4 q5 q6 q7
   obtain ⟨⟨p0,p1,p2,p3⟩,p4,p5,p6,p7⟩:=aC.out.cells
   have f0:=aC.out.frozen 4
   have f1:=aC.out.frozen 5
   have f2:=aC.out.frozen 6
   have f3:=aC.out.frozen 7
   obtain ⟨U,hU⟩:∃ U,(((w2.setCell ⟨h+1+1,4,none⟩ (.bool s7)).setCell ⟨h+1+1,5,none⟩ (.slice A7 n7 c7)).setCell ⟨h+1+1,6,none⟩ (.bool t7)).setCell ⟨h+1+1,7,none⟩ (.slice B7 m7 d7)=U:=⟨_,rfl⟩
   have hno:NoW w2 (h+1+1):=noW_of aC.out rfl
   have hkp:Kp (· = h+1+1) w2 U:=by rw [←hU]; exact kp4 w2 (h+1+1) 4 _ _ _ _
   have aM:=hJ (show P8 101 U (h+1+1) (.bool s4) (.slice A4 n4 c4) (.bool t4) (.slice B4 m4 d4) (.bool s7) (.slice A7 n7 c7) (.bool t7) (.slice B7 m7 d7) by rw [←hU]; exact aC.out.hi _ _ _ _)
   have aB:=hJ (show P8 101 U (h+1) (.bool false) (.slice none 0 0) (.bool false) (.slice none 0 0) (.bool false) (.slice none 0 0) (.bool false) (.slice none 0 0) by rw [←hU]; exact (((aJ.out.far (p:=⟨h+1+1,4,none⟩) (by simp) _).far (p:=⟨h+1+1,5,none⟩) (by simp) _).far (p:=⟨h+1+1,6,none⟩) (by simp) _).far (p:=⟨h+1+1,7,none⟩) (by simp) _)
   have hge:g≠h+1+1:=by have:=HG.out; omega
   have aN:=hJ (show P4 35 U g (.bool s6) (.slice A6 n6 c6) (.bool t6) (.slice B6 m6 d6) by rw [←hU]; exact ((((HT.out.new aA.out).far (p:=⟨h+1+1,4,none⟩) hge _).far (p:=⟨h+1+1,5,none⟩) hge _).far (p:=⟨h+1+1,6,none⟩) hge _).far (p:=⟨h+1+1,7,none⟩) hge _)
   have H73:=hJ (PF.apart aI.out hkp hno)
   have H03:=hJ (PF.apart (H0.out.new aA.out) hkp hno)
   have H13:=hJ (PF.apart (H1.out.new aA.out) hkp hno)
   have H23:=hJ (PF.apart (H2.out.new aA.out) hkp hno)
   have H33:=hJ (PF.apart (H3.out.new aA.out) hkp hno)
   have H63:=hJ (PF.apart (H6.out.new aA.out) hkp hno)
   have aO:=hJ (PF.apart (H4.out.new aA.out) hkp hno)
   have aL:=hJ (show Below w.heap.size w U by rw [←hU]; exact below4 aK.out (by rw [HH.out]; omega) 4 _ _ _ _)
   clear hno hkp hge aI aJ aC aK aA aF aH HZ HR H0 H1 H2 H3 H4 H5 H6 HT HB
   by_cases hc:code=0
   ·subst hc
    go_wp2
    go_roundw
    case rel=>exact ⟨2,s4,A4,n4,c4,t4,B4,m4,d4,s7,A7,n7,c7,t7,B7,m7,d7,by omega,by go_num,aB.out,aM.out,⟨H03.out,H13.out,H23.out,H33.out,H63.out⟩,aN.out,(by rw [if_pos (show 0 < 2 by omega),if_pos (show 0 < 2 by omega)]; exact aO.out),(by rw [if_pos (show 1 < 2 by omega),if_pos (show 1 < 2 by omega)]; exact H73.out),hJ ⟨fun _=>hle.out.1 (by omega),fun _=>aG.out⟩,aL.out⟩
    case measure=>simp [intOf]
   have HN:=hJ hc
   have hcb:(code == 0)=false:=by simp [hc]
   have HE:=hJ (show RX=0∧RXd=1∧RY=0∧RYd=1∧RC=code by
    have hne:¬ meK p q p' q' u v u' v':=fun h=>HN.out (by rw [←aG.out]; exact h.2)
    refine ⟨by rw [←aD.out.1]; exact if_neg hne,by rw [←aD.out.2.1]; exact if_neg hne,by rw [←aD.out.2.2.1]; exact if_neg hne,by rw [←aD.out.2.2.2.1]; exact if_neg hne,?_⟩
    rw [←aD.out.2.2.2.2]
    rw [meC,if_pos (hle.out.1 (by omega)),aG.out])
   clear hc
   obtain ⟨⟨z0,z1,z2,z3⟩,z4,z5,z6,z7⟩:=aB.out.cells
   have g0:=aB.out.frozen 0
   have g1:=aB.out.frozen 1
   have g2:=aB.out.frozen 2
   have g3:=aB.out.frozen 3
   have g4:=aB.out.frozen 4
   have g5:=aB.out.frozen 5
   have g6:=aB.out.frozen 6
   have g7:=aB.out.frozen 7
   go_wp2
   exact bodyPost_ret (results_cell1 rfl _ _ _ _ _ _ _ rfl (aB.out.all (.bool false) (.slice none 0 0) (.bool false) (.slice none 0 0) (.bool false) (.slice none 0 0) (.bool false) (.slice none 0 0)) Tryz.underlying101 rfl T8_size) rfl (by rw [HE.out.1,HE.out.2.1,HE.out.2.2.1,HE.out.2.2.2.1,HE.out.2.2.2.2]; exact ⟨_,_,_,_,_,_,_,_,_,_,_,_,_,_,_,_,rfl,PF.zero _,PF.zero _,below8 aL.out (by rw [HH.out]; omega) _ _ _ _ _ _ _ _⟩)
  ·rw [if_pos (show 0 < 2 by omega),if_pos (show 0 < 2 by omega)] at H4
   rw [if_pos (show 1 < 2 by omega),if_pos (show 1 < 2 by omega)] at H5
   have HE:=hJ (show RX=mdP p q p' q'∧RXd=mdQ p q p' q'∧RY=mdP u v u' v'∧RYd=mdQ u v u' v'∧RC=0 by
    have hk:meK p q p' q' u v u' v':=⟨hle.out.1 (by omega),hle.out.2 (by omega)⟩
    exact ⟨by rw [←aD.out.1]; exact if_pos hk,by rw [←aD.out.2.1]; exact if_pos hk,by rw [←aD.out.2.2.1]; exact if_pos hk,by rw [←aD.out.2.2.2.1]; exact if_pos hk,by rw [←aD.out.2.2.2.2,meC,if_pos hk.1,hk.2]⟩)
   obtain ⟨⟨p0,p1,p2,p3⟩,p4,p5,p6,p7⟩:=HR.out.cells
   obtain ⟨⟨z0,z1,z2,z3⟩,z4,z5,z6,z7⟩:=HZ.out.cells
   have g0:=HZ.out.frozen 0
   have g1:=HZ.out.frozen 1
   have g2:=HZ.out.frozen 2
   have g3:=HZ.out.frozen 3
   have g4:=HZ.out.frozen 4
   have g5:=HZ.out.frozen 5
   have g6:=HZ.out.frozen 6
   have g7:=HZ.out.frozen 7
   have aR:=hJ (show NoW wr (h+1) from noW_of HZ.out rfl)
   go_wp2
   exact bodyPost_ret (results_cell1 rfl _ _ _ _ _ _ _ rfl (HZ.out.all (.bool s4) (.slice A4 n4 c4) (.bool t4) (.slice B4 m4 d4) (.bool s5) (.slice A5 n5 c5) (.bool t5) (.slice B5 m5 d5)) Tryz.underlying101 rfl T8_size) rfl (by rw [HE.out.1,HE.out.2.1,HE.out.2.2.1,HE.out.2.2.2.1,HE.out.2.2.2.2]; exact ⟨s4,A4,n4,c4,t4,B4,m4,d4,s5,A5,n5,c5,t5,B5,m5,d5,rfl,PF.apart H4.out (kp8 wr (h+1) _ _ _ _ _ _ _ _) aR.out,PF.apart H5.out (kp8 wr (h+1) _ _ _ _ _ _ _ _) aR.out,below8 HB.out (by rw [HH.out]; omega) _ _ _ _ _ _ _ _⟩)
theorem pmid_any (p q u v p' q' u' v':Int) (s0:Bool) (A0:Option Addr) (n0 c0:Nat) (t0:Bool) (B0:Option Addr) (m0 d0:Nat) (s1:Bool) (A1:Option Addr) (n1 c1:Nat) (t1:Bool) (B1:Option Addr) (m1 d1:Nat) (s2:Bool) (A2:Option Addr) (n2 c2:Nat) (t2:Bool) (B2:Option Addr) (m2 d2:Nat) (s3:Bool) (A3:Option Addr) (n3 c3:Nat) (t3:Bool) (B3:Option Addr) (m3 d3:Nat) (w:World) (h0:PF w s0 A0 n0 c0 t0 B0 m0 d0 p q) (h1:PF w s1 A1 n1 c1 t1 B1 m1 d1 u v) (h2:PF w s2 A2 n2 c2 t2 B2 m2 d2 p' q') (h3:PF w s3 A3 n3 c3 t3 B3 m3 d3 u' v') (hl:((0 < q∧p.natAbs < lim∧q.natAbs < lim)∧(0 < q'∧p'.natAbs < lim∧q'.natAbs < lim))∧(0 < v∧u.natAbs < lim∧v.natAbs < lim)∧(0 < v'∧u'.natAbs < lim∧v'.natAbs < lim)) :
  Calls Tryz.prog 40 #[.agg #[.bool s0,.slice A0 n0 c0,.bool t0,.slice B0 m0 d0,.bool s1,.slice A1 n1 c1,.bool t1,.slice B1 m1 d1],.agg #[.bool s2,.slice A2 n2 c2,.bool t2,.slice B2 m2 d2,.bool s3,.slice A3 n3 c3,.bool t3,.slice B3 m3 d3]] w (RetTT (meX p q p' q' u v u' v') (meXd p q p' q' u v u' v') (meY p q p' q' u v u' v') (meYd p q p' q' u v u' v') (meC p q p' q' u v u' v') w):=by
 have HL:=hJ hl
 clear hl
 obtain ⟨W,hW⟩:∃ W,((w.alloc (.cells #[.bool s0,.slice A0 n0 c0,.bool t0,.slice B0 m0 d0,.bool s1,.slice A1 n1 c1,.bool t1,.slice B1 m1 d1] 37)).alloc (.cells #[.bool s2,.slice A2 n2 c2,.bool t2,.slice B2 m2 d2,.bool s3,.slice A3 n3 c3,.bool t3,.slice B3 m3 d3] 37)).alloc (.cells #[.bool false,.slice none 0 0,.bool false,.slice none 0 0,.bool false,.slice none 0 0,.bool false,.slice none 0 0] 37)=W:=⟨_,rfl⟩
 have HK:=hJ (show Below w.heap.size w W by rw [←hW]; exact (((Below.refl _ w).alloc (Nat.le_refl _) _).alloc (by simp) _).alloc (by simp; omega) _)
 have HA:=hJ (show P8 37 W w.heap.size (.bool s0) (.slice A0 n0 c0) (.bool t0) (.slice B0 m0 d0) (.bool s1) (.slice A1 n1 c1) (.bool t1) (.slice B1 m1 d1) by rw [←hW]; exact ((P8.lit w _ _ _ _ _ _ _ _ _).new ((Below.refl _ _).alloc (Nat.le_refl _) _)).new ((Below.refl _ _).alloc (Nat.le_refl _) _))
 have HB:=hJ (show P8 37 W (w.heap.size+1) (.bool s2) (.slice A2 n2 c2) (.bool t2) (.slice B2 m2 d2) (.bool s3) (.slice A3 n3 c3) (.bool t3) (.slice B3 m3 d3) by
  rw [←hW]
  have h0:=P8.lit (w.alloc (.cells #[.bool s0,.slice A0 n0 c0,.bool t0,.slice B0 m0 d0,.bool s1,.slice A1 n1 c1,.bool t1,.slice B1 m1 d1] 37)) 37 (.bool s2) (.slice A2 n2 c2) (.bool t2) (.slice B2 m2 d2) (.bool s3) (.slice A3 n3 c3) (.bool t3) (.slice B3 m3 d3)
  rw [World.size_alloc] at h0
  exact h0.new ((Below.refl _ _).alloc (Nat.le_refl _) _))
 have HZ:=hJ (show P8 37 W (w.heap.size+1+1) (.bool false) (.slice none 0 0) (.bool false) (.slice none 0 0) (.bool false) (.slice none 0 0) (.bool false) (.slice none 0 0) by
  rw [←hW]
  have h0:=P8.lit ((w.alloc (.cells #[.bool s0,.slice A0 n0 c0,.bool t0,.slice B0 m0 d0,.bool s1,.slice A1 n1 c1,.bool t1,.slice B1 m1 d1] 37)).alloc (.cells #[.bool s2,.slice A2 n2 c2,.bool t2,.slice B2 m2 d2,.bool s3,.slice A3 n3 c3,.bool t3,.slice B3 m3 d3] 37)) 37 (.bool false) (.slice none 0 0) (.bool false) (.slice none 0 0) (.bool false) (.slice none 0 0) (.bool false) (.slice none 0 0)
  rw [World.size_alloc,World.size_alloc] at h0
  exact h0)
 have H0:=hJ (h0.new HK.out)
 have H1:=hJ (h1.new HK.out)
 have H2:=hJ (h2.new HK.out)
 have H3:=hJ (h3.new HK.out)
 clear h0 h1 h2 h3
 obtain ⟨h,hh⟩:∃ h,w.heap.size=h:=⟨_,rfl⟩
 have HH:=hJ hh
 rw [hh] at HA HB HZ
 obtain ⟨RX,e1⟩:=nmz (meX p q p' q' u v u' v')
 obtain ⟨RXd,e2⟩:=nmz (meXd p q p' q' u v u' v')
 obtain ⟨RY,e3⟩:=nmz (meY p q p' q' u v u' v')
 obtain ⟨RYd,e4⟩:=nmz (meYd p q p' q' u v u' v')
 obtain ⟨RC,e5⟩:=nmz (meC p q p' q' u v u' v')
 have aC:=hJ (And.intro e1 (And.intro e2 (And.intro e3 (And.intro e4 e5))))
 rw [e1,e2,e3,e4,e5]
 clear e1 e2 e3 e4 e5
 go_enter Tryz.func40,Tryz.ntmps40
 go_wp2_with fail
 clear hW hh
 refine (fof_any 2 1 W (by decide) (by decide)).mono ?_
 rw [(mk_one 2).1,(mk_one 2).2.1,(mk_one 2).2.2]
 rintro e w1 ⟨s4,A4,n4,c4,t4,B4,m4,d4,rfl,hr1,hb1⟩
 obtain ⟨x1,aD⟩:=nmz (w1.alloc (.cells #[.bool s4,.slice A4 n4 c4,.bool t4,.slice B4 m4 d4] 35))
 have aI:=hJ (show Below w1.heap.size w1 x1 by rw [←aD]; exact (Below.refl _ _).alloc (Nat.le_refl _) _)
 have aJ:=hJ (show P4 35 x1 w1.heap.size (.bool s4) (.slice A4 n4 c4) (.bool t4) (.slice B4 m4 d4) by rw [←aD]; exact P4.lit _ _ _ _ _ _)
 obtain ⟨x2,aF⟩:=nmz (x1.alloc (.cells #[.bool s0,.slice A0 n0 c0,.bool t0,.slice B0 m0 d0,.bool s2,.slice A2 n2 c2,.bool t2,.slice B2 m2 d2,.bool s1,.slice A1 n1 c1,.bool t1,.slice B1 m1 d1,.bool s3,.slice A3 n3 c3,.bool t3,.slice B3 m3 d3] 127))
 have aG:=hJ (show Below x1.heap.size x1 x2 by rw [←aF]; exact (Below.refl _ _).alloc (Nat.le_refl _) _)
 have aK:=hJ (show P16 127 x2 x1.heap.size (.bool s0) (.slice A0 n0 c0) (.bool t0) (.slice B0 m0 d0) (.bool s2) (.slice A2 n2 c2) (.bool t2) (.slice B2 m2 d2) (.bool s1) (.slice A1 n1 c1) (.bool t1) (.slice B1 m1 d1) (.bool s3) (.slice A3 n3 c3) (.bool t3) (.slice B3 m3 d3) by rw [←aF]; exact P16.lit _ _ _ _ _ _ _ _ _ _ _ _ _ _ _ _ _ _)
 have aH:=hJ (bt hb1 aI.out)
 have aB:=hJ (bt aH.out aG.out)
 have aL:=hJ (HA.out.new aH.out)
 have aM:=hJ (HB.out.new aH.out)
 have aS:=hJ (HZ.out.new aB.out)
 have H02:=hJ (H0.out.new aB.out)
 have H12:=hJ (H1.out.new aB.out)
 have H22:=hJ (H2.out.new aB.out)
 have H32:=hJ (H3.out.new aB.out)
 have aN:=hJ (aJ.out.new aG.out)
 have aO:=hJ ((hr1.new aI.out).new aG.out)
 have aT:=hJ (bt HK.out aB.out)
 clear hr1 hb1 HA HB HZ H0 H1 H2 H3 HK
 obtain ⟨⟨p0,p1,p2,p3⟩,p4,p5,p6,p7⟩:=aL.out.cells
 obtain ⟨⟨q0,q1,q2,q3⟩,q4,q5,q6,q7⟩:=aM.out.cells
 obtain ⟨⟨r0,r1,r2,r3⟩,⟨r4,r5,r6,r7⟩,⟨r8,r9,r10,r11⟩,r12,r13,r14,r15⟩:=aK.out.cells
 go_wp2_with fail
 clear aD aF p0 p1 p2 p3 p4 p5 p6 p7 q0 q1 q2 q3 q4 q5 q6 q7 r0 r1 r2 r3 r4 r5 r6 r7 r8 r9 r10 r11 r12 r13 r14 r15
 refine (each3_any p q p' q' u v u' v' s0 A0 n0 c0 t0 B0 m0 d0 s2 A2 n2 c2 t2 B2 m2 d2 s1 A1 n1 c1 t1 B1 m1 d1 s3 A3 n3 c3 t3 B3 m3 d3 s4 A4 n4 c4 t4 B4 m4 d4 w1.heap.size x2 H02.out H22.out H12.out H32.out aN.out aO.out HL.out).mono ?_
 rw [aC.out.1,aC.out.2.1,aC.out.2.2.1,aC.out.2.2.2.1,aC.out.2.2.2.2]
 clear H02 H12 H22 H32 aN aO aL aM aJ aK
 rintro e w3 ⟨s5,A5,n5,c5,t5,B5,m5,d5,s6,A6,n6,c6,t6,B6,m6,d6,rfl,h5,h6,hb3⟩
 have H5:=hJ h5
 have H6:=hJ h6
 have aU:=hJ (bt aT.out hb3)
 have aV:=hJ (aS.out.new hb3)
 clear h5 h6 hb3
 go_wp2_with fail
 refine (rational_any RX RXd RY RYd s5 A5 n5 c5 t5 B5 m5 d5 s6 A6 n6 c6 t6 B6 m6 d6 RC w3 H5.out H6.out).mono ?_
 clear H5 H6
 rintro e w4 ⟨s7,A7,n7,c7,t7,B7,m7,d7,s8,A8,n8,c8,t8,B8,m8,d8,rfl,h5,h6,hb4⟩
 have H5:=hJ h5
 have H6:=hJ h6
 have aW:=hJ (bt aU.out hb4)
 have aA:=hJ (aV.out.new hb4)
 clear h5 h6 hb4
 obtain ⟨⟨z0,z1,z2,z3⟩,z4,z5,z6,z7⟩:=aA.out.cells
 have g0:=aA.out.frozen 0
 have g1:=aA.out.frozen 1
 have g2:=aA.out.frozen 2
 have g3:=aA.out.frozen 3
 have g4:=aA.out.frozen 4
 have g5:=aA.out.frozen 5
 have g6:=aA.out.frozen 6
 have g7:=aA.out.frozen 7
 have aR:=hJ (show NoW w4 (h+1+1) from noW_of aA.out rfl)
 go_wp2
 exact bodyPost_ret (results_cell1 rfl _ _ _ _ _ _ _ rfl (aA.out.all (.bool s7) (.slice A7 n7 c7) (.bool t7) (.slice B7 m7 d7) (.bool s8) (.slice A8 n8 c8) (.bool t8) (.slice B8 m8 d8)) Tryz.underlying37 rfl TP_size) rfl ⟨s7,A7,n7,c7,t7,B7,m7,d7,s8,A8,n8,c8,t8,B8,m8,d8,rfl,PF.apart H5.out (kp8 w4 (h+1+1) _ _ _ _ _ _ _ _) aR.out,PF.apart H6.out (kp8 w4 (h+1+1) _ _ _ _ _ _ _ _) aR.out,below8 aW.out (by rw [HH.out]; omega) _ _ _ _ _ _ _ _⟩
end Go.Proofs.YtagakcficjcfhaaGreat
