/- Contracts: points on segments. Conditions: as each statement has them. -/
import Derived.Test.YteggneaefggbmaaGreatEZ
namespace Go.Proofs.YteggneaefggbmaaGreat
set_option maxRecDepth 100000
set_option maxHeartbeats 12800000
open Go.RowKit
attribute [local go_sem ↓] Go.wp_at_zero Go.wp_at_succ
set_option linter.unusedVariables false
set_option linter.unusedSimpArgs false
theorem cm_sub (a b:Int):cmpI a b=cmpI (a - b) 0:=by unfold cmpI; split <;> split <;> (try split) <;> (try split) <;> omega
theorem cm_three (a b:Int):cmpI a b = -1∨cmpI a b=0∨cmpI a b=1:=by unfold cmpI; split; exact .inl rfl; split; exact .inr (.inr rfl); exact .inr (.inl rfl)
/-- A coordinate lies between two others. -/
def inC (a da b db p dp:Int):Bool := !decide (cmpI (a*dp) (p*da)*cmpI (p*db) (b*dp) < 0)
/-- A point lies in the box of two others. -/
def inX (ax ay da bx by' db px py dp:Int):Bool:=inC ax da bx db px dp && inC ay da by' db py dp
/-- A point lies on a segment. -/
def btV (ax ay da bx by' db px py dp:Int):Bool:=decide (cmpI (arN ax ay da bx by' db px py dp) 0=0) && inX ax ay da bx by' db px py dp
theorem bt_sign {a b c d:Int} (ha:a = -1∨a=0∨a=1) (hb:b = -1∨b=0∨b=1) (hc:c = -1∨c=0∨c=1) (hd:d = -1∨d=0∨d=1) (h:b*c=d*a):(!decide (a*b < 0) && !decide (c*d < 0))=decide (0≤(if a=0 then c else a)*(if b=0 then d else b)):=by
  rcases ha with rfl | rfl | rfl <;> rcases hb with rfl | rfl | rfl <;> rcases hc with rfl | rfl | rfl <;> rcases hd with rfl | rfl | rfl <;> revert h <;> decide
theorem ar_turn (ax ay da bx by' db px py dp:Int):da*((px*db - bx*dp)*(ay*dp - py*da))=da*((py*db - by'*dp)*(ax*dp - px*da))+dp*arN ax ay da bx by' db px py dp:=by unfold arN; grind
theorem ar_line {ax ay da bx by' db px py dp:Int} (hd:0 < da) (h:arN ax ay da bx by' db px py dp=0):(px*db - bx*dp)*(ay*dp - py*da)=(py*db - by'*dp)*(ax*dp - px*da):=by
  have h1:=ar_turn ax ay da bx by' db px py dp
  rw [h,Int.mul_zero,Int.add_zero] at h1
  exact Int.eq_of_mul_eq_mul_left (by omega) h1
theorem bt_ref {ax ay da bx by' db px py dp:Int} (hd:0 < da) (h:arN ax ay da bx by' db px py dp=0):inX ax ay da bx by' db px py dp=decide (0≤rcV ax ay da px py dp*rcV px py dp bx by' db):=by
  have h1:=ar_line hd h
  have h2:=congrArg (fun z=>cmpI z 0) h1
  simp only [cmp_prod',←cm_sub] at h2
  exact bt_sign (cm_three _ _) (cm_three _ _) (cm_three _ _) (cm_three _ _) h2
theorem cm_scale {n a b:Int} (h:0 < n):cmpI (a*n) (b*n)=cmpI a b:=by
  have h1:a*n < b*n↔a < b:=⟨fun g=>Int.lt_of_mul_lt_mul_right g (by omega),fun g=>Int.mul_lt_mul_of_pos_right g h⟩
  have h2:b*n < a*n↔b < a:=⟨fun g=>Int.lt_of_mul_lt_mul_right g (by omega),fun g=>Int.mul_lt_mul_of_pos_right g h⟩
  unfold cmpI
  simp only [h1,h2]
theorem cm_diff {a b c d m n:Int} (hm:0 < m) (hn:0 < n) (h:(a - b)*m=(c - d)*n):cmpI a b=cmpI c d:=by
  rw [cm_sub a b,cm_sub c d,←cm_scale (a:=a - b) (b:=0) hm,←cm_scale (a:=c - d) (b:=0) hn,h,Int.zero_mul,Int.zero_mul]
theorem sq_in (p:Int) (hp:p = -1∨p=0∨p=1):(!decide (p*p < 0))=true:=by rcases hp with rfl | rfl | rfl <;> rfl
/-- A point lies in the box of two others: six fractions. -/
def bxV (p0 q0 p1 q1 p2 q2 p3 q3 p4 q4 p5 q5:Int):Bool := !decide (cmpI (p0*q4) (p4*q0)*cmpI (p4*q2) (p2*q4) < 0) && !decide (cmpI (p1*q5) (p5*q1)*cmpI (p5*q3) (p3*q5) < 0)
theorem cm_i6 (a b c d:Int):I6 (cmpI a b*cmpI c d):=by
  rcases cm_three a b with h | h | h <;> rcases cm_three c d with g | g | g <;> rw [h,g] <;> exact ⟨by decide,by decide⟩
theorem cmp_lowB {p q r s x d y f:Int} (hq:0 < q) (hs:0 < s) (hd:0 < d) (hf:0 < f) (e:p*d=x*q) (e':r*f=y*s):cmpI (p*s) (r*q)=cmpI (x*f) (y*d):=by
  rw [←cm_scale (a:=p*s) (b:=r*q) (Int.mul_pos hd hf),←cm_scale (a:=x*f) (b:=y*d) (Int.mul_pos hq hs)]
  have e1:p*s*(d*f)=x*f*(q*s):=by
    calc p*s*(d*f)=p*d*(s*f):=by ac_rfl
      _=x*f*(q*s):=by rw [e]; ac_rfl
  have e2:r*q*(d*f)=y*d*(q*s):=by
    calc r*q*(d*f)=r*f*(q*d):=by ac_rfl
      _=y*d*(q*s):=by rw [e']; ac_rfl
  rw [e1,e2]
theorem bx_mk {ax ay da bx by' db px py dp:Int} (ha:0 < da) (hb:0 < db) (hp:0 < dp):bxV (mkP ax da) (mkQ ax da) (mkP ay da) (mkQ ay da) (mkP bx db) (mkQ bx db) (mkP by' db) (mkQ by' db) (mkP px dp) (mkQ px dp) (mkP py dp) (mkQ py dp)=inX ax ay da bx by' db px py dp:=by
  obtain ⟨l0,e0⟩:=mk_low ax da ha
  obtain ⟨l1,e1⟩:=mk_low ay da ha
  obtain ⟨l2,e2⟩:=mk_low bx db hb
  obtain ⟨l3,e3⟩:=mk_low by' db hb
  obtain ⟨l4,e4⟩:=mk_low px dp hp
  obtain ⟨l5,e5⟩:=mk_low py dp hp
  unfold bxV inX inC
  rw [cmp_lowB l0.1 l4.1 ha hp e0 e4,cmp_lowB l4.1 l2.1 hp hb e4 e2,cmp_lowB l1.1 l5.1 ha hp e1 e5,cmp_lowB l5.1 l3.1 hp hb e5 e3]
theorem rc_three (a b c d e f:Int):rcV a b c d e f = -1∨rcV a b c d e f=0∨rcV a b c d e f=1:=by
  unfold rcV
  split <;> exact cm_three _ _
theorem rc_i6 (a b c d e f a' b' c' d' e' f':Int):I6 (rcV a b c d e f*rcV a' b' c' d' e' f'):=by
  rcases rc_three a b c d e f with h | h | h <;> rcases rc_three a' b' c' d' e' f' with g | g | g <;> rw [h,g] <;> exact ⟨by decide,by decide⟩
theorem cm_z {a:Int} (h:cmpI a 0=0):a=0:=by
  unfold cmpI at h
  split at h
  · omega
  · split at h <;> omega
theorem gx2_0 {v0 v1 v2 v3 v4 v5 v6 v7:Value} (wx:World):(Instr.index 134 (.agg #[v0,v1,v2,v3,v4,v5,v6,v7]) (.int .i64 0)).run Tryz.prog wx=.ok (.agg #[v0,v1,v2,v3]) wx:=by
  first
    | kernel_rfl
    | simp [Instr.index,run_underlying Tryz.underlying134,asIntOf,go_sem]
theorem gx2_1 {v0 v1 v2 v3 v4 v5 v6 v7:Value} (wx:World):(Instr.index 134 (.agg #[v0,v1,v2,v3,v4,v5,v6,v7]) (.int .i64 1)).run Tryz.prog wx=.ok (.agg #[v4,v5,v6,v7]) wx:=by
  first
    | kernel_rfl
    | simp [Instr.index,run_underlying Tryz.underlying134,asIntOf,go_sem]
theorem inbox_any (p0 q0 p1 q1 p2 q2 p3 q3 p4 q4 p5 q5:Int) (s0:Bool) (A0:Option Addr) (n0 c0:Nat) (t0:Bool) (B0:Option Addr) (m0 d0:Nat) (s1:Bool) (A1:Option Addr) (n1 c1:Nat) (t1:Bool) (B1:Option Addr) (m1 d1:Nat) (s2:Bool) (A2:Option Addr) (n2 c2:Nat) (t2:Bool) (B2:Option Addr) (m2 d2:Nat) (s3:Bool) (A3:Option Addr) (n3 c3:Nat) (t3:Bool) (B3:Option Addr) (m3 d3:Nat) (s4:Bool) (A4:Option Addr) (n4 c4:Nat) (t4:Bool) (B4:Option Addr) (m4 d4:Nat) (s5:Bool) (A5:Option Addr) (n5 c5:Nat) (t5:Bool) (B5:Option Addr) (m5 d5:Nat) (w:World) (h0:PF w s0 A0 n0 c0 t0 B0 m0 d0 p0 q0) (h1:PF w s1 A1 n1 c1 t1 B1 m1 d1 p1 q1) (h2:PF w s2 A2 n2 c2 t2 B2 m2 d2 p2 q2) (h3:PF w s3 A3 n3 c3 t3 B3 m3 d3 p3 q3) (h4:PF w s4 A4 n4 c4 t4 B4 m4 d4 p4 q4) (h5:PF w s5 A5 n5 c5 t5 B5 m5 d5 p5 q5) (f0:Fr p0 q0) (f1:Fr p1 q1) (f2:Fr p2 q2) (f3:Fr p3 q3) (f4:Fr p4 q4) (f5:Fr p5 q5) :
    Calls Tryz.prog 119 #[.agg #[.bool s0,.slice A0 n0 c0,.bool t0,.slice B0 m0 d0,.bool s1,.slice A1 n1 c1,.bool t1,.slice B1 m1 d1],.agg #[.bool s2,.slice A2 n2 c2,.bool t2,.slice B2 m2 d2,.bool s3,.slice A3 n3 c3,.bool t3,.slice B3 m3 d3],.agg #[.bool s4,.slice A4 n4 c4,.bool t4,.slice B4 m4 d4,.bool s5,.slice A5 n5 c5,.bool t5,.slice B5 m5 d5]] w fun e w'=>e=.returned (.bool (bxV p0 q0 p1 q1 p2 q2 p3 q3 p4 q4 p5 q5))∧Below w.heap.size w w':=by
  have dL:=hJ h0
  have aX:=hJ f0
  have dM:=hJ h1
  have aY:=hJ f1
  have dN:=hJ h2
  have aZ:=hJ f2
  have dO:=hJ h3
  have bA:=hJ f3
  have dP:=hJ h4
  have aM:=hJ f4
  have dQ:=hJ h5
  have aN:=hJ f5
  clear h0 f0 h1 f1 h2 f2 h3 f3 h4 f4 h5 f5
  obtain ⟨ka0,hka0⟩:=nmz (cmpI (p0*q4) (p4*q0))
  obtain ⟨kb0,hkb0⟩:=nmz (cmpI (p4*q2) (p2*q4))
  obtain ⟨kc0,hkc0⟩:=nmz (ka0*kb0)
  have YK0:=hJ hka0
  have YL0:=hJ hkb0
  have YM0:=hJ hkc0
  have YW0:=hJ (show IntKind.i64.wrap (ka0*kb0)=kc0 by rw [←hkc0,←hka0,←hkb0]; exact i6_wrap (cm_i6 _ _ _ _))
  clear hka0 hkb0 hkc0
  obtain ⟨ka1,hka1⟩:=nmz (cmpI (p1*q5) (p5*q1))
  obtain ⟨kb1,hkb1⟩:=nmz (cmpI (p5*q3) (p3*q5))
  obtain ⟨kc1,hkc1⟩:=nmz (ka1*kb1)
  have YK1:=hJ hka1
  have YL1:=hJ hkb1
  have YM1:=hJ hkc1
  have YW1:=hJ (show IntKind.i64.wrap (ka1*kb1)=kc1 by rw [←hkc1,←hka1,←hkb1]; exact i6_wrap (cm_i6 _ _ _ _))
  clear hka1 hkb1 hkc1
  obtain ⟨x1,bE⟩:=nmz (((w.alloc (.cells #[.bool s0,.slice A0 n0 c0,.bool t0,.slice B0 m0 d0,.bool s1,.slice A1 n1 c1,.bool t1,.slice B1 m1 d1] 29)).alloc (.cells #[.bool s2,.slice A2 n2 c2,.bool t2,.slice B2 m2 d2,.bool s3,.slice A3 n3 c3,.bool t3,.slice B3 m3 d3] 29)).alloc (.cells #[.bool s4,.slice A4 n4 c4,.bool t4,.slice B4 m4 d4,.bool s5,.slice A5 n5 c5,.bool t5,.slice B5 m5 d5] 29))
  have bF:=hJ (show Below w.heap.size w x1 by rw [←bE]; exact ((((Below.refl _ _).alloc (Nat.le_refl _) _).alloc (by simp only [World.size_alloc]; omega) _).alloc (by simp only [World.size_alloc]; omega) _))
  have aR:=hJ (show BX 29 x1 w.heap.size #[.bool s0,.slice A0 n0 c0,.bool t0,.slice B0 m0 d0,.bool s1,.slice A1 n1 c1,.bool t1,.slice B1 m1 d1] by rw [←bE]; exact (((BX.at rfl).alloc _).alloc _))
  have aS:=hJ (show BX 29 x1 (w.heap.size+1) #[.bool s2,.slice A2 n2 c2,.bool t2,.slice B2 m2 d2,.bool s3,.slice A3 n3 c3,.bool t3,.slice B3 m3 d3] by rw [←bE]; exact ((BX.at (by simp only [World.size_alloc])).alloc _))
  have fF:=hJ (show BX 29 x1 (w.heap.size+2) #[.bool s4,.slice A4 n4 c4,.bool t4,.slice B4 m4 d4,.bool s5,.slice A5 n5 c5,.bool t5,.slice B5 m5 d5] by rw [←bE]; exact (BX.at (by simp only [World.size_alloc])))
  have aD:Hid (∀ w',Below x1.heap.size x1 w'→(fun w':World=>w'.cell? ⟨w.heap.size,0,none⟩=some (.bool s0)∧w'.cell? ⟨w.heap.size,1,none⟩=some (.slice A0 n0 c0)∧w'.cell? ⟨w.heap.size,2,none⟩=some (.bool t0)∧w'.cell? ⟨w.heap.size,3,none⟩=some (.slice B0 m0 d0)∧w'.cell? ⟨w.heap.size,4,none⟩=some (.bool s1)∧w'.cell? ⟨w.heap.size,5,none⟩=some (.slice A1 n1 c1)∧w'.cell? ⟨w.heap.size,6,none⟩=some (.bool t1)∧w'.cell? ⟨w.heap.size,7,none⟩=some (.slice B1 m1 d1)∧w'.cell? ⟨w.heap.size+1,0,none⟩=some (.bool s2)∧w'.cell? ⟨w.heap.size+1,1,none⟩=some (.slice A2 n2 c2)∧w'.cell? ⟨w.heap.size+1,2,none⟩=some (.bool t2)∧w'.cell? ⟨w.heap.size+1,3,none⟩=some (.slice B2 m2 d2)∧w'.cell? ⟨w.heap.size+1,4,none⟩=some (.bool s3)∧w'.cell? ⟨w.heap.size+1,5,none⟩=some (.slice A3 n3 c3)∧w'.cell? ⟨w.heap.size+1,6,none⟩=some (.bool t3)∧w'.cell? ⟨w.heap.size+1,7,none⟩=some (.slice B3 m3 d3)∧Below x1.heap.size x1 w') w'):=hJ (fun w' hb=>⟨(BX.new aR.out hb).cell 0 rfl,(BX.new aR.out hb).cell 1 rfl,(BX.new aR.out hb).cell 2 rfl,(BX.new aR.out hb).cell 3 rfl,(BX.new aR.out hb).cell 4 rfl,(BX.new aR.out hb).cell 5 rfl,(BX.new aR.out hb).cell 6 rfl,(BX.new aR.out hb).cell 7 rfl,(BX.new aS.out hb).cell 0 rfl,(BX.new aS.out hb).cell 1 rfl,(BX.new aS.out hb).cell 2 rfl,(BX.new aS.out hb).cell 3 rfl,(BX.new aS.out hb).cell 4 rfl,(BX.new aS.out hb).cell 5 rfl,(BX.new aS.out hb).cell 6 rfl,(BX.new aS.out hb).cell 7 rfl,hb⟩)
  go_enter Tryz.func119,Tryz.ntmps119
  go_wp2_with fail
  clear bE
  obtain ⟨v2,hv2⟩:=nmz (World.drew x1)
  have bG:=hJ (show Below x1.heap.size x1 v2 by rw [←hv2]; exact (Below.refl _ _).drew)
  refine whd aD hv2 (fun hHeld=>?_)
  clear hv2
  refine tq 0 ?_
  refine tq 2 ?_
  try simp only [PT]
  refine wpAnyH_name (fun F hF a0 ha0 L0 hL0=>?_)
  have bB:∀ (aA:Nat) (aB:Nat) (v:World),Hid (Below x1.heap.size x1 v)→Hid (BX 134 v aA #[.bool false,.slice none 0 0,.bool false,.slice none 0 0,.bool false,.slice none 0 0,.bool false,.slice none 0 0])→Hid (x1.heap.size≤aA)→Hid (BX 134 v aB #[.bool false,.slice none 0 0,.bool false,.slice none 0 0,.bool false,.slice none 0 0,.bool false,.slice none 0 0])→Hid (x1.heap.size≤aB)→Hid (aA≠aB)→F 2 (Array.setIfInBounds (Array.setIfInBounds (Array.setIfInBounds (Array.setIfInBounds L0 1 true) 3 true) 4 true) 5 true) (Act.put (Act.put (Act.put (Act.put a0 (some 12) (.agg #[.bool s0,.slice A0 n0 c0,.bool t0,.slice B0 m0 d0,.bool s1,.slice A1 n1 c1,.bool t1,.slice B1 m1 d1])) (some 14) (.agg #[.bool s2,.slice A2 n2 c2,.bool t2,.slice B2 m2 d2,.bool s3,.slice A3 n3 c3,.bool t3,.slice B3 m3 d3])) (some 7) (.pointer (some ⟨aA,0,none⟩))) (some 8) (.pointer (some ⟨aB,0,none⟩))) v:=by
    intro aA aB v aC aE aK aJ aL bC
    subst hF ha0 hL0
    simp only [PT] at  ⊢
    have hHeld:=aD.out _ aC.out
    refine ryy [6] ?_
    refine .cons rfl (fun K hK=>?_) .nil
    have z3_0:=aE.out.cell 0 rfl
    have y3_0:=aE.out.frozen 0
    have z3_1:=aE.out.cell 1 rfl
    have y3_1:=aE.out.frozen 1
    have z3_2:=aE.out.cell 2 rfl
    have y3_2:=aE.out.frozen 2
    have z3_3:=aE.out.cell 3 rfl
    have y3_3:=aE.out.frozen 3
    have z3_4:=aE.out.cell 4 rfl
    have y3_4:=aE.out.frozen 4
    have z3_5:=aE.out.cell 5 rfl
    have y3_5:=aE.out.frozen 5
    have z3_6:=aE.out.cell 6 rfl
    have y3_6:=aE.out.frozen 6
    have z3_7:=aE.out.cell 7 rfl
    have y3_7:=aE.out.frozen 7
    have z3:=aE.out.lt
    go_simp
    obtain ⟨v3,hV⟩:=nmz (World.setCell (World.setCell (World.setCell (World.setCell (World.setCell (World.setCell (World.setCell (World.setCell v ⟨aA,0,none⟩ (.bool s0)) ⟨aA,1,none⟩ (.slice A0 n0 c0)) ⟨aA,2,none⟩ (.bool t0)) ⟨aA,3,none⟩ (.slice B0 m0 d0)) ⟨aA,4,none⟩ (.bool s1)) ⟨aA,5,none⟩ (.slice A1 n1 c1)) ⟨aA,6,none⟩ (.bool t1)) ⟨aA,7,none⟩ (.slice B1 m1 d1))
    rw [hV]
    have bZ:=hJ (show sto v aA 0 [.bool s0,.slice A0 n0 c0,.bool t0,.slice B0 m0 d0,.bool s1,.slice A1 n1 c1,.bool t1,.slice B1 m1 d1]=v3 from hV)
    clear hV z3 z3_0 y3_0 z3_1 y3_1 z3_2 y3_2 z3_3 y3_3 z3_4 y3_4 z3_5 y3_5 z3_6 y3_6 z3_7 y3_7
    have dR:=hJ (show Below x1.heap.size x1 v3 by rw [←bZ.out]; exact below_sto aC.out aK.out _ _)
    have aH:=hJ (show BX 134 v3 aB #[.bool false,.slice none 0 0,.bool false,.slice none 0 0,.bool false,.slice none 0 0,.bool false,.slice none 0 0] by rw [←bZ.out]; exact BX.far aJ.out bC.out.symm _ _)
    have fG:=hJ (show BX 134 v3 aA #[.bool s0,.slice A0 n0 c0,.bool t0,.slice B0 m0 d0,.bool s1,.slice A1 n1 c1,.bool t1,.slice B1 m1 d1] by rw [←bZ.out]; exact BX.put aE.out _ _)
    clear hHeld
    refine hK.out _ _ (aD.out _ dR.out) (fun hHeld=>?_)
    clear hK K
    try simp only [PT]
    refine ryy [7] ?_
    refine .cons rfl (fun K hK=>?_) .nil
    have z4_0:=aH.out.cell 0 rfl
    have y4_0:=aH.out.frozen 0
    have z4_1:=aH.out.cell 1 rfl
    have y4_1:=aH.out.frozen 1
    have z4_2:=aH.out.cell 2 rfl
    have y4_2:=aH.out.frozen 2
    have z4_3:=aH.out.cell 3 rfl
    have y4_3:=aH.out.frozen 3
    have z4_4:=aH.out.cell 4 rfl
    have y4_4:=aH.out.frozen 4
    have z4_5:=aH.out.cell 5 rfl
    have y4_5:=aH.out.frozen 5
    have z4_6:=aH.out.cell 6 rfl
    have y4_6:=aH.out.frozen 6
    have z4_7:=aH.out.cell 7 rfl
    have y4_7:=aH.out.frozen 7
    have z4:=aH.out.lt
    go_simp
    obtain ⟨v4,hV⟩:=nmz (World.setCell (World.setCell (World.setCell (World.setCell (World.setCell (World.setCell (World.setCell (World.setCell v3 ⟨aB,0,none⟩ (.bool s2)) ⟨aB,1,none⟩ (.slice A2 n2 c2)) ⟨aB,2,none⟩ (.bool t2)) ⟨aB,3,none⟩ (.slice B2 m2 d2)) ⟨aB,4,none⟩ (.bool s3)) ⟨aB,5,none⟩ (.slice A3 n3 c3)) ⟨aB,6,none⟩ (.bool t3)) ⟨aB,7,none⟩ (.slice B3 m3 d3))
    rw [hV]
    have cA:=hJ (show sto v3 aB 0 [.bool s2,.slice A2 n2 c2,.bool t2,.slice B2 m2 d2,.bool s3,.slice A3 n3 c3,.bool t3,.slice B3 m3 d3]=v4 from hV)
    clear hV z4 z4_0 y4_0 z4_1 y4_1 z4_2 y4_2 z4_3 y4_3 z4_4 y4_4 z4_5 y4_5 z4_6 y4_6 z4_7 y4_7
    have aV:=hJ (show Below x1.heap.size x1 v4 by rw [←cA.out]; exact below_sto dR.out aL.out _ _)
    have bM:=hJ (show BX 134 v4 aA #[.bool s0,.slice A0 n0 c0,.bool t0,.slice B0 m0 d0,.bool s1,.slice A1 n1 c1,.bool t1,.slice B1 m1 d1] by rw [←cA.out]; exact BX.far fG.out bC.out _ _)
    have bN:=hJ (show BX 134 v4 aB #[.bool s2,.slice A2 n2 c2,.bool t2,.slice B2 m2 d2,.bool s3,.slice A3 n3 c3,.bool t3,.slice B3 m3 d3] by rw [←cA.out]; exact BX.put aH.out _ _)
    clear hHeld
    refine hK.out _ _ (aD.out _ aV.out) (fun hHeld=>?_)
    clear hK K
    try simp only [PT]
    refine wpAnyH_done (by kernel_rfl) ?_ _
    clear hHeld
    have fH:=hJ (BX.new fF.out aV.out)
    obtain ⟨fI,fJ,fK,fL,fM,fN,fO,fP⟩:=fH.out.q8 0 1 2 3 4 5 6 7
    go_wp2_with fail
    clear fI fJ fK fL fM fN fO fP
    refine (coords_any s4 A4 n4 c4 t4 B4 m4 d4 s5 A5 n5 c5 t5 B5 m5 d5 v4).mono ?_
    rintro e w15 ⟨rfl,hb⟩
    have aQ:=hJ hb
    clear hb
    go_wp2_with fail
    go_loopw [17] (fun tv wr=>∃ i:Nat,i≤2∧tv=.int .i64 (i:Int)∧Below w15.heap.size w15 wr∧Hid ((0 < i→decide (kc0 < 0)=false)∧(1 < i→decide (kc1 < 0)=false))) (fun tv _=>2 - (intOf tv).toNat)
    case atStart=>exact ⟨0,by omega,rfl,Below.refl _ _,hJ (⟨fun h=>absurd h (by decide),fun h=>absurd h (by decide)⟩)⟩
    case round =>
      obtain ⟨i16,hi,rfl,hbel,cB⟩:=hrel
      obtain ⟨wl16,rfl⟩:∃ W:World,W=wr:=⟨_,rfl⟩
      have aO:=hJ hbel
      clear hbel
      have hcs:i16=0∨i16=1∨i16=2:=by omega
      clear hi
      rcases hcs with rfl | rfl | rfl
      · (try rw [show ((0:Nat):Int)=0 from rfl])
        have hix:∀ wx,(Instr.index 134 (.agg #[.bool s4,.slice A4 n4 c4,.bool t4,.slice B4 m4 d4,.bool s5,.slice A5 n5 c5,.bool t5,.slice B5 m5 d5]) (.int .i64 0)).run Tryz.prog wx=.ok (.agg #[.bool s4,.slice A4 n4 c4,.bool t4,.slice B4 m4 d4]) wx:=fun wx=>gx2_0 wx
        obtain ⟨x17,bO⟩:=nmz (wl16.alloc (.cells #[.bool s4,.slice A4 n4 c4,.bool t4,.slice B4 m4 d4] 27))
        have bH:=hJ (show Below wl16.heap.size wl16 x17 by rw [←bO]; exact ((Below.refl _ _).alloc (Nat.le_refl _) _))
        have aT:=hJ (show BX 27 x17 wl16.heap.size #[.bool s4,.slice A4 n4 c4,.bool t4,.slice B4 m4 d4] by rw [←bO]; exact (BX.at rfl))
        by_cases hneg:kc0 < 0
        · have YB0:=hJ (show decide (kc0 < 0)=true from decide_eq_true hneg)
          clear hneg
          have aW:=YW0.out
          have aP:=hJ (bt (bt aQ.out aO.out) bH.out)
          have aF:=hJ (BX.new bM.out aP.out)
          have aG:=hJ (BX.new bN.out aP.out)
          have cC:Hid (∀ w',Below x17.heap.size x17 w'→(fun w':World=>w'.cell? ⟨aA,0,none⟩=some (.bool s0)∧w'.cell? ⟨aA,1,none⟩=some (.slice A0 n0 c0)∧w'.cell? ⟨aA,2,none⟩=some (.bool t0)∧w'.cell? ⟨aA,3,none⟩=some (.slice B0 m0 d0)∧w'.cell? ⟨wl16.heap.size,0,none⟩=some (.bool s4)∧w'.cell? ⟨wl16.heap.size,1,none⟩=some (.slice A4 n4 c4)∧w'.cell? ⟨wl16.heap.size,2,none⟩=some (.bool t4)∧w'.cell? ⟨wl16.heap.size,3,none⟩=some (.slice B4 m4 d4)∧w'.cell? ⟨aB,0,none⟩=some (.bool s2)∧w'.cell? ⟨aB,1,none⟩=some (.slice A2 n2 c2)∧w'.cell? ⟨aB,2,none⟩=some (.bool t2)∧w'.cell? ⟨aB,3,none⟩=some (.slice B2 m2 d2)∧Below x17.heap.size x17 w') w'):=hJ (fun w' hb=>⟨(BX.new aF.out hb).cell 0 rfl,(BX.new aF.out hb).cell 1 rfl,(BX.new aF.out hb).cell 2 rfl,(BX.new aF.out hb).cell 3 rfl,(BX.new aT.out hb).cell 0 rfl,(BX.new aT.out hb).cell 1 rfl,(BX.new aT.out hb).cell 2 rfl,(BX.new aT.out hb).cell 3 rfl,(BX.new aG.out hb).cell 0 rfl,(BX.new aG.out hb).cell 1 rfl,(BX.new aG.out hb).cell 2 rfl,(BX.new aG.out hb).cell 3 rfl,hb⟩)
          have aI:=hJ (bt (bt (bt (bt bF.out aV.out) aQ.out) aO.out) bH.out)
          have cD:=hJ (PF.new dL.out aI.out)
          have bJ:=hJ (PF.new dP.out aI.out)
          have cE:=hJ (PF.new dN.out aI.out)
          go_wp2_with fail
          clear hix bO aW
          obtain ⟨v18,hv18⟩:=nmz (World.drew x17)
          have cF:=hJ (show Below x17.heap.size x17 v18 by rw [←hv18]; exact (Below.refl _ _).drew)
          refine whd cC hv18 (fun hHeld=>?_)
          clear hv18
          refine tq 0 ?_
          refine tq 1 ?_
          refine tq 2 ?_
          refine tq 3 ?_
          refine tq 5 ?_
          refine tq 6 ?_
          refine tq 7 ?_
          refine tq 8 ?_
          try simp only [PT]
          refine ryy [4] ?_
          refine .cons rfl (fun K hK=>?_) .nil
          go_simp
          go_at_call 38
          refine (fcompare_any p0 q0 p4 q4 s0 t0 s4 t4 A0 B0 A4 B4 n0 c0 m0 d0 n4 c4 m4 d4 v18 (PF.new cD.out cF.out) (PF.new bJ.out cF.out) aX.out.1.1 aM.out.1.1 aX.out.2.1 aX.out.2.2 aM.out.2.1 aM.out.2.2).mono ?_
          rw [YK0.out]
          rintro e v19 ⟨rfl,hb⟩
          have fQ:=hJ hb
          clear hb
          go_wp2_with fail
          have bP:=hJ (bt cF.out fQ.out)
          clear hHeld
          refine hK.out _ _ (cC.out _ bP.out) (fun hHeld=>?_)
          clear hK K
          try simp only [PT]
          refine ryy [9] ?_
          refine .cons rfl (fun K hK=>?_) .nil
          go_simp
          go_at_call 38
          refine (fcompare_any p4 q4 p2 q2 s4 t4 s2 t2 A4 B4 A2 B2 n4 c4 m4 d4 n2 c2 m2 d2 v19 (PF.new bJ.out bP.out) (PF.new cE.out bP.out) aM.out.1.1 aZ.out.1.1 aM.out.2.1 aM.out.2.2 aZ.out.2.1 aZ.out.2.2).mono ?_
          rw [YL0.out]
          rintro e v20 ⟨rfl,hb⟩
          have fR:=hJ hb
          clear hb
          go_wp2_with fail
          have dS:=hJ (bt bP.out fR.out)
          clear hHeld
          refine hK.out _ _ (cC.out _ dS.out) (fun hHeld=>?_)
          clear hK K
          try simp only [PT]
          refine tk 10 (.int .i64 kc0) ?_ ?_
          · intro w hSw
            (try dsimp only at hSw)
            go_simp
            first | (rw [YW0.out]) | rfl
          try simp only [PT]
          refine tk 11 (.bool true) ?_ ?_
          · intro w hSw
            (try dsimp only at hSw)
            go_simp
            have hyb:=of_decide_eq_true YB0.out
            omega
          try simp only [PT]
          refine wpAnyH_done (by kernel_rfl) ?_ _
          clear hHeld
          have cG:=hJ (bt aI.out dS.out)
          go_wp2
          go_ret
          exact ⟨by unfold bxV; rw [YK0.out,YL0.out,YM0.out,YK1.out,YL1.out,YM1.out,YB0.out]; rfl,cG.out⟩
        · have YB0:=hJ (show decide (kc0 < 0)=false from decide_eq_false hneg)
          clear hneg
          have aW:=YW0.out
          have aP:=hJ (bt (bt aQ.out aO.out) bH.out)
          have aF:=hJ (BX.new bM.out aP.out)
          have aG:=hJ (BX.new bN.out aP.out)
          have cH:Hid (∀ w',Below x17.heap.size x17 w'→(fun w':World=>w'.cell? ⟨aA,0,none⟩=some (.bool s0)∧w'.cell? ⟨aA,1,none⟩=some (.slice A0 n0 c0)∧w'.cell? ⟨aA,2,none⟩=some (.bool t0)∧w'.cell? ⟨aA,3,none⟩=some (.slice B0 m0 d0)∧w'.cell? ⟨wl16.heap.size,0,none⟩=some (.bool s4)∧w'.cell? ⟨wl16.heap.size,1,none⟩=some (.slice A4 n4 c4)∧w'.cell? ⟨wl16.heap.size,2,none⟩=some (.bool t4)∧w'.cell? ⟨wl16.heap.size,3,none⟩=some (.slice B4 m4 d4)∧w'.cell? ⟨aB,0,none⟩=some (.bool s2)∧w'.cell? ⟨aB,1,none⟩=some (.slice A2 n2 c2)∧w'.cell? ⟨aB,2,none⟩=some (.bool t2)∧w'.cell? ⟨aB,3,none⟩=some (.slice B2 m2 d2)∧Below x17.heap.size x17 w') w'):=hJ (fun w' hb=>⟨(BX.new aF.out hb).cell 0 rfl,(BX.new aF.out hb).cell 1 rfl,(BX.new aF.out hb).cell 2 rfl,(BX.new aF.out hb).cell 3 rfl,(BX.new aT.out hb).cell 0 rfl,(BX.new aT.out hb).cell 1 rfl,(BX.new aT.out hb).cell 2 rfl,(BX.new aT.out hb).cell 3 rfl,(BX.new aG.out hb).cell 0 rfl,(BX.new aG.out hb).cell 1 rfl,(BX.new aG.out hb).cell 2 rfl,(BX.new aG.out hb).cell 3 rfl,hb⟩)
          have aI:=hJ (bt (bt (bt (bt bF.out aV.out) aQ.out) aO.out) bH.out)
          have cD:=hJ (PF.new dL.out aI.out)
          have bJ:=hJ (PF.new dP.out aI.out)
          have cE:=hJ (PF.new dN.out aI.out)
          go_wp2_with fail
          clear hix bO aW
          obtain ⟨v21,hv21⟩:=nmz (World.drew x17)
          have cI:=hJ (show Below x17.heap.size x17 v21 by rw [←hv21]; exact (Below.refl _ _).drew)
          refine whd cH hv21 (fun hHeld=>?_)
          clear hv21
          refine tq 0 ?_
          refine tq 1 ?_
          refine tq 2 ?_
          refine tq 3 ?_
          refine tq 5 ?_
          refine tq 6 ?_
          refine tq 7 ?_
          refine tq 8 ?_
          try simp only [PT]
          refine ryy [4] ?_
          refine .cons rfl (fun K hK=>?_) .nil
          go_simp
          go_at_call 38
          refine (fcompare_any p0 q0 p4 q4 s0 t0 s4 t4 A0 B0 A4 B4 n0 c0 m0 d0 n4 c4 m4 d4 v21 (PF.new cD.out cI.out) (PF.new bJ.out cI.out) aX.out.1.1 aM.out.1.1 aX.out.2.1 aX.out.2.2 aM.out.2.1 aM.out.2.2).mono ?_
          rw [YK0.out]
          rintro e v22 ⟨rfl,hb⟩
          have fS:=hJ hb
          clear hb
          go_wp2_with fail
          have bQ:=hJ (bt cI.out fS.out)
          clear hHeld
          refine hK.out _ _ (cH.out _ bQ.out) (fun hHeld=>?_)
          clear hK K
          try simp only [PT]
          refine ryy [9] ?_
          refine .cons rfl (fun K hK=>?_) .nil
          go_simp
          go_at_call 38
          refine (fcompare_any p4 q4 p2 q2 s4 t4 s2 t2 A4 B4 A2 B2 n4 c4 m4 d4 n2 c2 m2 d2 v22 (PF.new bJ.out bQ.out) (PF.new cE.out bQ.out) aM.out.1.1 aZ.out.1.1 aM.out.2.1 aM.out.2.2 aZ.out.2.1 aZ.out.2.2).mono ?_
          rw [YL0.out]
          rintro e v23 ⟨rfl,hb⟩
          have fT:=hJ hb
          clear hb
          go_wp2_with fail
          have dT:=hJ (bt bQ.out fT.out)
          clear hHeld
          refine hK.out _ _ (cH.out _ dT.out) (fun hHeld=>?_)
          clear hK K
          try simp only [PT]
          refine tk 10 (.int .i64 kc0) ?_ ?_
          · intro w hSw
            (try dsimp only at hSw)
            go_simp
            first | (rw [YW0.out]) | rfl
          try simp only [PT]
          refine tk 11 (.bool false) ?_ ?_
          · intro w hSw
            (try dsimp only at hSw)
            go_simp
            have hyb:=of_decide_eq_false YB0.out
            omega
          try simp only [PT]
          refine wpAnyH_done (by kernel_rfl) ?_ _
          clear hHeld
          have cJ:=hJ (bt (bt aO.out bH.out) dT.out)
          go_wp2_with fail
          go_roundw
          case rel=>exact ⟨0+1,by omega,by go_num,cJ.out,hJ (⟨fun _=>YB0.out,fun h=>absurd h (by decide)⟩)⟩
          case measure=>simp [intOf] <;> omega
      · (try rw [show ((1:Nat):Int)=1 from rfl])
        have hix:∀ wx,(Instr.index 134 (.agg #[.bool s4,.slice A4 n4 c4,.bool t4,.slice B4 m4 d4,.bool s5,.slice A5 n5 c5,.bool t5,.slice B5 m5 d5]) (.int .i64 1)).run Tryz.prog wx=.ok (.agg #[.bool s5,.slice A5 n5 c5,.bool t5,.slice B5 m5 d5]) wx:=fun wx=>gx2_1 wx
        obtain ⟨x24,bR⟩:=nmz (wl16.alloc (.cells #[.bool s5,.slice A5 n5 c5,.bool t5,.slice B5 m5 d5] 27))
        have bK:=hJ (show Below wl16.heap.size wl16 x24 by rw [←bR]; exact ((Below.refl _ _).alloc (Nat.le_refl _) _))
        have aU:=hJ (show BX 27 x24 wl16.heap.size #[.bool s5,.slice A5 n5 c5,.bool t5,.slice B5 m5 d5] by rw [←bR]; exact (BX.at rfl))
        by_cases hneg:kc1 < 0
        · have YB1:=hJ (show decide (kc1 < 0)=true from decide_eq_true hneg)
          clear hneg
          have aW:=YW1.out
          have aP:=hJ (bt (bt aQ.out aO.out) bK.out)
          have aF:=hJ (BX.new bM.out aP.out)
          have aG:=hJ (BX.new bN.out aP.out)
          have cK:Hid (∀ w',Below x24.heap.size x24 w'→(fun w':World=>w'.cell? ⟨aA,4,none⟩=some (.bool s1)∧w'.cell? ⟨aA,5,none⟩=some (.slice A1 n1 c1)∧w'.cell? ⟨aA,6,none⟩=some (.bool t1)∧w'.cell? ⟨aA,7,none⟩=some (.slice B1 m1 d1)∧w'.cell? ⟨wl16.heap.size,0,none⟩=some (.bool s5)∧w'.cell? ⟨wl16.heap.size,1,none⟩=some (.slice A5 n5 c5)∧w'.cell? ⟨wl16.heap.size,2,none⟩=some (.bool t5)∧w'.cell? ⟨wl16.heap.size,3,none⟩=some (.slice B5 m5 d5)∧w'.cell? ⟨aB,4,none⟩=some (.bool s3)∧w'.cell? ⟨aB,5,none⟩=some (.slice A3 n3 c3)∧w'.cell? ⟨aB,6,none⟩=some (.bool t3)∧w'.cell? ⟨aB,7,none⟩=some (.slice B3 m3 d3)∧Below x24.heap.size x24 w') w'):=hJ (fun w' hb=>⟨(BX.new aF.out hb).cell 4 rfl,(BX.new aF.out hb).cell 5 rfl,(BX.new aF.out hb).cell 6 rfl,(BX.new aF.out hb).cell 7 rfl,(BX.new aU.out hb).cell 0 rfl,(BX.new aU.out hb).cell 1 rfl,(BX.new aU.out hb).cell 2 rfl,(BX.new aU.out hb).cell 3 rfl,(BX.new aG.out hb).cell 4 rfl,(BX.new aG.out hb).cell 5 rfl,(BX.new aG.out hb).cell 6 rfl,(BX.new aG.out hb).cell 7 rfl,hb⟩)
          have aI:=hJ (bt (bt (bt (bt bF.out aV.out) aQ.out) aO.out) bK.out)
          have cL:=hJ (PF.new dM.out aI.out)
          have bL:=hJ (PF.new dQ.out aI.out)
          have cM:=hJ (PF.new dO.out aI.out)
          go_wp2_with fail
          clear hix bR aW
          obtain ⟨v25,hv25⟩:=nmz (World.drew x24)
          have cN:=hJ (show Below x24.heap.size x24 v25 by rw [←hv25]; exact (Below.refl _ _).drew)
          refine whd cK hv25 (fun hHeld=>?_)
          clear hv25
          refine tq 0 ?_
          refine tq 1 ?_
          refine tq 2 ?_
          refine tq 3 ?_
          refine tq 5 ?_
          refine tq 6 ?_
          refine tq 7 ?_
          refine tq 8 ?_
          try simp only [PT]
          refine ryy [4] ?_
          refine .cons rfl (fun K hK=>?_) .nil
          go_simp
          go_at_call 38
          refine (fcompare_any p1 q1 p5 q5 s1 t1 s5 t5 A1 B1 A5 B5 n1 c1 m1 d1 n5 c5 m5 d5 v25 (PF.new cL.out cN.out) (PF.new bL.out cN.out) aY.out.1.1 aN.out.1.1 aY.out.2.1 aY.out.2.2 aN.out.2.1 aN.out.2.2).mono ?_
          rw [YK1.out]
          rintro e v26 ⟨rfl,hb⟩
          have fU:=hJ hb
          clear hb
          go_wp2_with fail
          have bS:=hJ (bt cN.out fU.out)
          clear hHeld
          refine hK.out _ _ (cK.out _ bS.out) (fun hHeld=>?_)
          clear hK K
          try simp only [PT]
          refine ryy [9] ?_
          refine .cons rfl (fun K hK=>?_) .nil
          go_simp
          go_at_call 38
          refine (fcompare_any p5 q5 p3 q3 s5 t5 s3 t3 A5 B5 A3 B3 n5 c5 m5 d5 n3 c3 m3 d3 v26 (PF.new bL.out bS.out) (PF.new cM.out bS.out) aN.out.1.1 bA.out.1.1 aN.out.2.1 aN.out.2.2 bA.out.2.1 bA.out.2.2).mono ?_
          rw [YL1.out]
          rintro e v27 ⟨rfl,hb⟩
          have fV:=hJ hb
          clear hb
          go_wp2_with fail
          have dU:=hJ (bt bS.out fV.out)
          clear hHeld
          refine hK.out _ _ (cK.out _ dU.out) (fun hHeld=>?_)
          clear hK K
          try simp only [PT]
          refine tk 10 (.int .i64 kc1) ?_ ?_
          · intro w hSw
            (try dsimp only at hSw)
            go_simp
            first | (rw [YW1.out]) | rfl
          try simp only [PT]
          refine tk 11 (.bool true) ?_ ?_
          · intro w hSw
            (try dsimp only at hSw)
            go_simp
            have hyb:=of_decide_eq_true YB1.out
            omega
          try simp only [PT]
          refine wpAnyH_done (by kernel_rfl) ?_ _
          clear hHeld
          have cG:=hJ (bt aI.out dU.out)
          go_wp2
          go_ret
          exact ⟨by unfold bxV; rw [YK0.out,YL0.out,YM0.out,YK1.out,YL1.out,YM1.out,YB1.out]; simp,cG.out⟩
        · have YB1:=hJ (show decide (kc1 < 0)=false from decide_eq_false hneg)
          clear hneg
          have aW:=YW1.out
          have aP:=hJ (bt (bt aQ.out aO.out) bK.out)
          have aF:=hJ (BX.new bM.out aP.out)
          have aG:=hJ (BX.new bN.out aP.out)
          have cO:Hid (∀ w',Below x24.heap.size x24 w'→(fun w':World=>w'.cell? ⟨aA,4,none⟩=some (.bool s1)∧w'.cell? ⟨aA,5,none⟩=some (.slice A1 n1 c1)∧w'.cell? ⟨aA,6,none⟩=some (.bool t1)∧w'.cell? ⟨aA,7,none⟩=some (.slice B1 m1 d1)∧w'.cell? ⟨wl16.heap.size,0,none⟩=some (.bool s5)∧w'.cell? ⟨wl16.heap.size,1,none⟩=some (.slice A5 n5 c5)∧w'.cell? ⟨wl16.heap.size,2,none⟩=some (.bool t5)∧w'.cell? ⟨wl16.heap.size,3,none⟩=some (.slice B5 m5 d5)∧w'.cell? ⟨aB,4,none⟩=some (.bool s3)∧w'.cell? ⟨aB,5,none⟩=some (.slice A3 n3 c3)∧w'.cell? ⟨aB,6,none⟩=some (.bool t3)∧w'.cell? ⟨aB,7,none⟩=some (.slice B3 m3 d3)∧Below x24.heap.size x24 w') w'):=hJ (fun w' hb=>⟨(BX.new aF.out hb).cell 4 rfl,(BX.new aF.out hb).cell 5 rfl,(BX.new aF.out hb).cell 6 rfl,(BX.new aF.out hb).cell 7 rfl,(BX.new aU.out hb).cell 0 rfl,(BX.new aU.out hb).cell 1 rfl,(BX.new aU.out hb).cell 2 rfl,(BX.new aU.out hb).cell 3 rfl,(BX.new aG.out hb).cell 4 rfl,(BX.new aG.out hb).cell 5 rfl,(BX.new aG.out hb).cell 6 rfl,(BX.new aG.out hb).cell 7 rfl,hb⟩)
          have aI:=hJ (bt (bt (bt (bt bF.out aV.out) aQ.out) aO.out) bK.out)
          have cL:=hJ (PF.new dM.out aI.out)
          have bL:=hJ (PF.new dQ.out aI.out)
          have cM:=hJ (PF.new dO.out aI.out)
          go_wp2_with fail
          clear hix bR aW
          obtain ⟨v28,hv28⟩:=nmz (World.drew x24)
          have cP:=hJ (show Below x24.heap.size x24 v28 by rw [←hv28]; exact (Below.refl _ _).drew)
          refine whd cO hv28 (fun hHeld=>?_)
          clear hv28
          refine tq 0 ?_
          refine tq 1 ?_
          refine tq 2 ?_
          refine tq 3 ?_
          refine tq 5 ?_
          refine tq 6 ?_
          refine tq 7 ?_
          refine tq 8 ?_
          try simp only [PT]
          refine ryy [4] ?_
          refine .cons rfl (fun K hK=>?_) .nil
          go_simp
          go_at_call 38
          refine (fcompare_any p1 q1 p5 q5 s1 t1 s5 t5 A1 B1 A5 B5 n1 c1 m1 d1 n5 c5 m5 d5 v28 (PF.new cL.out cP.out) (PF.new bL.out cP.out) aY.out.1.1 aN.out.1.1 aY.out.2.1 aY.out.2.2 aN.out.2.1 aN.out.2.2).mono ?_
          rw [YK1.out]
          rintro e v29 ⟨rfl,hb⟩
          have fW:=hJ hb
          clear hb
          go_wp2_with fail
          have bT:=hJ (bt cP.out fW.out)
          clear hHeld
          refine hK.out _ _ (cO.out _ bT.out) (fun hHeld=>?_)
          clear hK K
          try simp only [PT]
          refine ryy [9] ?_
          refine .cons rfl (fun K hK=>?_) .nil
          go_simp
          go_at_call 38
          refine (fcompare_any p5 q5 p3 q3 s5 t5 s3 t3 A5 B5 A3 B3 n5 c5 m5 d5 n3 c3 m3 d3 v29 (PF.new bL.out bT.out) (PF.new cM.out bT.out) aN.out.1.1 bA.out.1.1 aN.out.2.1 aN.out.2.2 bA.out.2.1 bA.out.2.2).mono ?_
          rw [YL1.out]
          rintro e v30 ⟨rfl,hb⟩
          have fX:=hJ hb
          clear hb
          go_wp2_with fail
          have dW:=hJ (bt bT.out fX.out)
          clear hHeld
          refine hK.out _ _ (cO.out _ dW.out) (fun hHeld=>?_)
          clear hK K
          try simp only [PT]
          refine tk 10 (.int .i64 kc1) ?_ ?_
          · intro w hSw
            (try dsimp only at hSw)
            go_simp
            first | (rw [YW1.out]) | rfl
          try simp only [PT]
          refine tk 11 (.bool false) ?_ ?_
          · intro w hSw
            (try dsimp only at hSw)
            go_simp
            have hyb:=of_decide_eq_false YB1.out
            omega
          try simp only [PT]
          refine wpAnyH_done (by kernel_rfl) ?_ _
          clear hHeld
          have cJ:=hJ (bt (bt aO.out bK.out) dW.out)
          go_wp2_with fail
          go_roundw
          case rel=>exact ⟨1+1,by omega,by go_num,cJ.out,hJ (⟨fun _=>cB.out.1 (by decide),fun _=>YB1.out⟩)⟩
          case measure=>simp [intOf] <;> omega
      · (try rw [show ((2:Nat):Int)=2 from rfl])
        have fY:=hJ (bt (bt (bt bF.out aV.out) aQ.out) aO.out)
        go_wp2
        go_ret
        exact ⟨by unfold bxV; rw [YK0.out,YL0.out,YM0.out,YK1.out,YL1.out,YM1.out,cB.out.1 (by decide),cB.out.2 (by decide)]; rfl,fY.out⟩
  have bU:∀ (aA:Nat) (v:World),Hid (Below x1.heap.size x1 v)→Hid (BX 134 v aA #[.bool false,.slice none 0 0,.bool false,.slice none 0 0,.bool false,.slice none 0 0,.bool false,.slice none 0 0])→Hid (x1.heap.size≤aA)→F 3 (Array.setIfInBounds (Array.setIfInBounds (Array.setIfInBounds L0 1 true) 3 true) 4 true) (Act.put (Act.put (Act.put a0 (some 12) (.agg #[.bool s0,.slice A0 n0 c0,.bool t0,.slice B0 m0 d0,.bool s1,.slice A1 n1 c1,.bool t1,.slice B1 m1 d1])) (some 14) (.agg #[.bool s2,.slice A2 n2 c2,.bool t2,.slice B2 m2 d2,.bool s3,.slice A3 n3 c3,.bool t3,.slice B3 m3 d3])) (some 7) (.pointer (some ⟨aA,0,none⟩))) v:=by
    intro aA v aC aE aK
    subst hF ha0 hL0
    simp only [PT] at bB ⊢
    have hHeld:=aD.out _ aC.out
    refine ryy [5] ?_
    refine .cons rfl (fun K hK=>?_) .nil
    go_simp
    have cQ:=hJ ((Below.refl v.heap.size v).alloc (Nat.le_refl _) (.cells #[.bool false,.slice none 0 0,.bool false,.slice none 0 0,.bool false,.slice none 0 0,.bool false,.slice none 0 0] 134))
    have cR:=hJ (BX.lit v 134 #[.bool false,.slice none 0 0,.bool false,.slice none 0 0,.bool false,.slice none 0 0,.bool false,.slice none 0 0])
    obtain ⟨v31,hV⟩:=nmz (World.alloc v (.cells #[.bool false,.slice none 0 0,.bool false,.slice none 0 0,.bool false,.slice none 0 0,.bool false,.slice none 0 0] 134))
    obtain ⟨aB,hg⟩:=nmz (v.heap.size)
    rw [hV] at cQ cR ⊢
    rw [hg] at cR ⊢
    have fZ:=hJ (show x1.heap.size≤aB by rw [←hg]; exact aC.out.size)
    have gA:=hJ (show aA≠aB by have:=aE.out.lt; rw [hg] at this; omega)
    clear hV hg
    have dX:=hJ (bt aC.out cQ.out)
    have gB:=hJ (BX.new aE.out cQ.out)
    clear hHeld
    refine hK.out _ _ (aD.out _ dX.out) (fun hHeld=>?_)
    clear hK K
    try simp only [PT]
    exact wpAnyH_cast (by kernel_rfl) (bB aA aB v31 dX gB aK cR fZ (hJ gA.out))
  have bV:∀ (aB:Nat) (v:World),Hid (Below x1.heap.size x1 v)→Hid (BX 134 v aB #[.bool false,.slice none 0 0,.bool false,.slice none 0 0,.bool false,.slice none 0 0,.bool false,.slice none 0 0])→Hid (x1.heap.size≤aB)→F 3 (Array.setIfInBounds (Array.setIfInBounds (Array.setIfInBounds L0 1 true) 3 true) 5 true) (Act.put (Act.put (Act.put a0 (some 12) (.agg #[.bool s0,.slice A0 n0 c0,.bool t0,.slice B0 m0 d0,.bool s1,.slice A1 n1 c1,.bool t1,.slice B1 m1 d1])) (some 14) (.agg #[.bool s2,.slice A2 n2 c2,.bool t2,.slice B2 m2 d2,.bool s3,.slice A3 n3 c3,.bool t3,.slice B3 m3 d3])) (some 8) (.pointer (some ⟨aB,0,none⟩))) v:=by
    intro aB v aC aJ aL
    subst hF ha0 hL0
    simp only [PT] at bB ⊢
    have hHeld:=aD.out _ aC.out
    refine ryy [4] ?_
    refine .cons rfl (fun K hK=>?_) .nil
    go_simp
    have cS:=hJ ((Below.refl v.heap.size v).alloc (Nat.le_refl _) (.cells #[.bool false,.slice none 0 0,.bool false,.slice none 0 0,.bool false,.slice none 0 0,.bool false,.slice none 0 0] 134))
    have cT:=hJ (BX.lit v 134 #[.bool false,.slice none 0 0,.bool false,.slice none 0 0,.bool false,.slice none 0 0,.bool false,.slice none 0 0])
    obtain ⟨v32,hV⟩:=nmz (World.alloc v (.cells #[.bool false,.slice none 0 0,.bool false,.slice none 0 0,.bool false,.slice none 0 0,.bool false,.slice none 0 0] 134))
    obtain ⟨aA,hg⟩:=nmz (v.heap.size)
    rw [hV] at cS cT ⊢
    rw [hg] at cT ⊢
    have gC:=hJ (show x1.heap.size≤aA by rw [←hg]; exact aC.out.size)
    have gD:=hJ (show aB≠aA by have:=aJ.out.lt; rw [hg] at this; omega)
    clear hV hg
    have dY:=hJ (bt aC.out cS.out)
    have gE:=hJ (BX.new aJ.out cS.out)
    clear hHeld
    refine hK.out _ _ (aD.out _ dY.out) (fun hHeld=>?_)
    clear hK K
    try simp only [PT]
    exact wpAnyH_cast (by kernel_rfl) (bB aA aB v32 dY cT gC gE aL (hJ gD.out.symm))
  have bD:∀ (aA:Nat) (aB:Nat) (v:World),Hid (Below x1.heap.size x1 v)→Hid (BX 134 v aA #[.bool false,.slice none 0 0,.bool false,.slice none 0 0,.bool false,.slice none 0 0,.bool false,.slice none 0 0])→Hid (x1.heap.size≤aA)→Hid (BX 134 v aB #[.bool false,.slice none 0 0,.bool false,.slice none 0 0,.bool false,.slice none 0 0,.bool false,.slice none 0 0])→Hid (x1.heap.size≤aB)→Hid (aA≠aB)→F 3 (Array.setIfInBounds (Array.setIfInBounds (Array.setIfInBounds L0 1 true) 4 true) 5 true) (Act.put (Act.put (Act.put a0 (some 12) (.agg #[.bool s0,.slice A0 n0 c0,.bool t0,.slice B0 m0 d0,.bool s1,.slice A1 n1 c1,.bool t1,.slice B1 m1 d1])) (some 7) (.pointer (some ⟨aA,0,none⟩))) (some 8) (.pointer (some ⟨aB,0,none⟩))) v:=by
    intro aA aB v aC aE aK aJ aL bC
    subst hF ha0 hL0
    simp only [PT] at bB ⊢
    have hHeld:=aD.out _ aC.out
    refine ryy [3] ?_
    refine .cons rfl (fun K hK=>?_) .nil
    go_simp
    go_at_call 101
    refine (coords_any s2 A2 n2 c2 t2 B2 m2 d2 s3 A3 n3 c3 t3 B3 m3 d3 v).mono ?_
    rintro e v33 ⟨rfl,hb⟩
    have cU:=hJ hb
    clear hb
    go_wp2_with fail
    have dZ:=hJ (bt aC.out cU.out)
    have gF:=hJ (BX.new aE.out cU.out)
    have gG:=hJ (BX.new aJ.out cU.out)
    clear hHeld
    refine hK.out _ _ (aD.out _ dZ.out) (fun hHeld=>?_)
    clear hK K
    try simp only [PT]
    exact wpAnyH_cast (by kernel_rfl) (bB aA aB v33 dZ gF aK gG aL (hJ bC.out))
  have eA:∀ (v:World),Hid (Below x1.heap.size x1 v)→F 4 (Array.setIfInBounds (Array.setIfInBounds L0 1 true) 3 true) (Act.put (Act.put a0 (some 12) (.agg #[.bool s0,.slice A0 n0 c0,.bool t0,.slice B0 m0 d0,.bool s1,.slice A1 n1 c1,.bool t1,.slice B1 m1 d1])) (some 14) (.agg #[.bool s2,.slice A2 n2 c2,.bool t2,.slice B2 m2 d2,.bool s3,.slice A3 n3 c3,.bool t3,.slice B3 m3 d3])) v:=by
    intro  v aC
    subst hF ha0 hL0
    simp only [PT] at bU bV ⊢
    have hHeld:=aD.out _ aC.out
    refine ryy [4,5] ?_
    refine .cons rfl (fun K hK=>?_) ?_
    go_simp
    have eB:=hJ ((Below.refl v.heap.size v).alloc (Nat.le_refl _) (.cells #[.bool false,.slice none 0 0,.bool false,.slice none 0 0,.bool false,.slice none 0 0,.bool false,.slice none 0 0] 134))
    have cV:=hJ (BX.lit v 134 #[.bool false,.slice none 0 0,.bool false,.slice none 0 0,.bool false,.slice none 0 0,.bool false,.slice none 0 0])
    obtain ⟨v34,hV⟩:=nmz (World.alloc v (.cells #[.bool false,.slice none 0 0,.bool false,.slice none 0 0,.bool false,.slice none 0 0,.bool false,.slice none 0 0] 134))
    obtain ⟨aA,hg⟩:=nmz (v.heap.size)
    rw [hV] at eB cV ⊢
    rw [hg] at cV ⊢
    have gH:=hJ (show x1.heap.size≤aA by rw [←hg]; exact aC.out.size)
    clear hV hg
    have eC:=hJ (bt aC.out eB.out)
    clear hHeld
    refine hK.out _ _ (aD.out _ eC.out) (fun hHeld=>?_)
    clear hK K
    try simp only [PT]
    exact wpAnyH_cast (by kernel_rfl) (bU aA v34 eC cV gH)
    refine .cons rfl (fun K hK=>?_) .nil
    go_simp
    have eD:=hJ ((Below.refl v.heap.size v).alloc (Nat.le_refl _) (.cells #[.bool false,.slice none 0 0,.bool false,.slice none 0 0,.bool false,.slice none 0 0,.bool false,.slice none 0 0] 134))
    have cW:=hJ (BX.lit v 134 #[.bool false,.slice none 0 0,.bool false,.slice none 0 0,.bool false,.slice none 0 0,.bool false,.slice none 0 0])
    obtain ⟨v35,hV⟩:=nmz (World.alloc v (.cells #[.bool false,.slice none 0 0,.bool false,.slice none 0 0,.bool false,.slice none 0 0,.bool false,.slice none 0 0] 134))
    obtain ⟨aB,hg⟩:=nmz (v.heap.size)
    rw [hV] at eD cW ⊢
    rw [hg] at cW ⊢
    have gI:=hJ (show x1.heap.size≤aB by rw [←hg]; exact aC.out.size)
    clear hV hg
    have eE:=hJ (bt aC.out eD.out)
    clear hHeld
    refine hK.out _ _ (aD.out _ eE.out) (fun hHeld=>?_)
    clear hK K
    try simp only [PT]
    exact wpAnyH_cast (by kernel_rfl) (bV aB v35 eE cW gI)
  have bW:∀ (aA:Nat) (v:World),Hid (Below x1.heap.size x1 v)→Hid (BX 134 v aA #[.bool false,.slice none 0 0,.bool false,.slice none 0 0,.bool false,.slice none 0 0,.bool false,.slice none 0 0])→Hid (x1.heap.size≤aA)→F 4 (Array.setIfInBounds (Array.setIfInBounds L0 1 true) 4 true) (Act.put (Act.put a0 (some 12) (.agg #[.bool s0,.slice A0 n0 c0,.bool t0,.slice B0 m0 d0,.bool s1,.slice A1 n1 c1,.bool t1,.slice B1 m1 d1])) (some 7) (.pointer (some ⟨aA,0,none⟩))) v:=by
    intro aA v aC aE aK
    subst hF ha0 hL0
    simp only [PT] at bU bD ⊢
    have hHeld:=aD.out _ aC.out
    refine ryy [3,5] ?_
    refine .cons rfl (fun K hK=>?_) ?_
    go_simp
    go_at_call 101
    refine (coords_any s2 A2 n2 c2 t2 B2 m2 d2 s3 A3 n3 c3 t3 B3 m3 d3 v).mono ?_
    rintro e v36 ⟨rfl,hb⟩
    have eF:=hJ hb
    clear hb
    go_wp2_with fail
    have eG:=hJ (bt aC.out eF.out)
    have gJ:=hJ (BX.new aE.out eF.out)
    clear hHeld
    refine hK.out _ _ (aD.out _ eG.out) (fun hHeld=>?_)
    clear hK K
    try simp only [PT]
    exact wpAnyH_cast (by kernel_rfl) (bU aA v36 eG gJ aK)
    refine .cons rfl (fun K hK=>?_) .nil
    go_simp
    have cX:=hJ ((Below.refl v.heap.size v).alloc (Nat.le_refl _) (.cells #[.bool false,.slice none 0 0,.bool false,.slice none 0 0,.bool false,.slice none 0 0,.bool false,.slice none 0 0] 134))
    have cY:=hJ (BX.lit v 134 #[.bool false,.slice none 0 0,.bool false,.slice none 0 0,.bool false,.slice none 0 0,.bool false,.slice none 0 0])
    obtain ⟨v37,hV⟩:=nmz (World.alloc v (.cells #[.bool false,.slice none 0 0,.bool false,.slice none 0 0,.bool false,.slice none 0 0,.bool false,.slice none 0 0] 134))
    obtain ⟨aB,hg⟩:=nmz (v.heap.size)
    rw [hV] at cX cY ⊢
    rw [hg] at cY ⊢
    have gK:=hJ (show x1.heap.size≤aB by rw [←hg]; exact aC.out.size)
    have gL:=hJ (show aA≠aB by have:=aE.out.lt; rw [hg] at this; omega)
    clear hV hg
    have eH:=hJ (bt aC.out cX.out)
    have gM:=hJ (BX.new aE.out cX.out)
    clear hHeld
    refine hK.out _ _ (aD.out _ eH.out) (fun hHeld=>?_)
    clear hK K
    try simp only [PT]
    exact wpAnyH_cast (by kernel_rfl) (bD aA aB v37 eH gM aK cY gK (hJ gL.out))
  have bX:∀ (aB:Nat) (v:World),Hid (Below x1.heap.size x1 v)→Hid (BX 134 v aB #[.bool false,.slice none 0 0,.bool false,.slice none 0 0,.bool false,.slice none 0 0,.bool false,.slice none 0 0])→Hid (x1.heap.size≤aB)→F 4 (Array.setIfInBounds (Array.setIfInBounds L0 1 true) 5 true) (Act.put (Act.put a0 (some 12) (.agg #[.bool s0,.slice A0 n0 c0,.bool t0,.slice B0 m0 d0,.bool s1,.slice A1 n1 c1,.bool t1,.slice B1 m1 d1])) (some 8) (.pointer (some ⟨aB,0,none⟩))) v:=by
    intro aB v aC aJ aL
    subst hF ha0 hL0
    simp only [PT] at bV bD ⊢
    have hHeld:=aD.out _ aC.out
    refine ryy [3,4] ?_
    refine .cons rfl (fun K hK=>?_) ?_
    go_simp
    go_at_call 101
    refine (coords_any s2 A2 n2 c2 t2 B2 m2 d2 s3 A3 n3 c3 t3 B3 m3 d3 v).mono ?_
    rintro e v38 ⟨rfl,hb⟩
    have eI:=hJ hb
    clear hb
    go_wp2_with fail
    have eJ:=hJ (bt aC.out eI.out)
    have gN:=hJ (BX.new aJ.out eI.out)
    clear hHeld
    refine hK.out _ _ (aD.out _ eJ.out) (fun hHeld=>?_)
    clear hK K
    try simp only [PT]
    exact wpAnyH_cast (by kernel_rfl) (bV aB v38 eJ gN aL)
    refine .cons rfl (fun K hK=>?_) .nil
    go_simp
    have cZ:=hJ ((Below.refl v.heap.size v).alloc (Nat.le_refl _) (.cells #[.bool false,.slice none 0 0,.bool false,.slice none 0 0,.bool false,.slice none 0 0,.bool false,.slice none 0 0] 134))
    have dA:=hJ (BX.lit v 134 #[.bool false,.slice none 0 0,.bool false,.slice none 0 0,.bool false,.slice none 0 0,.bool false,.slice none 0 0])
    obtain ⟨v39,hV⟩:=nmz (World.alloc v (.cells #[.bool false,.slice none 0 0,.bool false,.slice none 0 0,.bool false,.slice none 0 0,.bool false,.slice none 0 0] 134))
    obtain ⟨aA,hg⟩:=nmz (v.heap.size)
    rw [hV] at cZ dA ⊢
    rw [hg] at dA ⊢
    have gO:=hJ (show x1.heap.size≤aA by rw [←hg]; exact aC.out.size)
    have gP:=hJ (show aB≠aA by have:=aJ.out.lt; rw [hg] at this; omega)
    clear hV hg
    have eK:=hJ (bt aC.out cZ.out)
    have gQ:=hJ (BX.new aJ.out cZ.out)
    clear hHeld
    refine hK.out _ _ (aD.out _ eK.out) (fun hHeld=>?_)
    clear hK K
    try simp only [PT]
    exact wpAnyH_cast (by kernel_rfl) (bD aA aB v39 eK dA gO gQ aL (hJ gP.out.symm))
  have bY:∀ (aA:Nat) (aB:Nat) (v:World),Hid (Below x1.heap.size x1 v)→Hid (BX 134 v aA #[.bool false,.slice none 0 0,.bool false,.slice none 0 0,.bool false,.slice none 0 0,.bool false,.slice none 0 0])→Hid (x1.heap.size≤aA)→Hid (BX 134 v aB #[.bool false,.slice none 0 0,.bool false,.slice none 0 0,.bool false,.slice none 0 0,.bool false,.slice none 0 0])→Hid (x1.heap.size≤aB)→Hid (aA≠aB)→F 4 (Array.setIfInBounds (Array.setIfInBounds L0 4 true) 5 true) (Act.put (Act.put a0 (some 7) (.pointer (some ⟨aA,0,none⟩))) (some 8) (.pointer (some ⟨aB,0,none⟩))) v:=by
    intro aA aB v aC aE aK aJ aL bC
    subst hF ha0 hL0
    simp only [PT] at bD ⊢
    have hHeld:=aD.out _ aC.out
    refine ryy [1] ?_
    refine .cons rfl (fun K hK=>?_) .nil
    go_simp
    go_at_call 101
    refine (coords_any s0 A0 n0 c0 t0 B0 m0 d0 s1 A1 n1 c1 t1 B1 m1 d1 v).mono ?_
    rintro e v40 ⟨rfl,hb⟩
    have dB:=hJ hb
    clear hb
    go_wp2_with fail
    have eL:=hJ (bt aC.out dB.out)
    have gR:=hJ (BX.new aE.out dB.out)
    have gS:=hJ (BX.new aJ.out dB.out)
    clear hHeld
    refine hK.out _ _ (aD.out _ eL.out) (fun hHeld=>?_)
    clear hK K
    try simp only [PT]
    exact wpAnyH_cast (by kernel_rfl) (bD aA aB v40 eL gR aK gS aL (hJ bC.out))
  have eM:∀ (v:World),Hid (Below x1.heap.size x1 v)→F 5 (Array.setIfInBounds L0 1 true) (Act.put a0 (some 12) (.agg #[.bool s0,.slice A0 n0 c0,.bool t0,.slice B0 m0 d0,.bool s1,.slice A1 n1 c1,.bool t1,.slice B1 m1 d1])) v:=by
    intro  v aC
    subst hF ha0 hL0
    simp only [PT] at eA bW bX ⊢
    have hHeld:=aD.out _ aC.out
    refine ryy [3,4,5] ?_
    refine .cons rfl (fun K hK=>?_) ?_
    go_simp
    go_at_call 101
    refine (coords_any s2 A2 n2 c2 t2 B2 m2 d2 s3 A3 n3 c3 t3 B3 m3 d3 v).mono ?_
    rintro e v41 ⟨rfl,hb⟩
    have gT:=hJ hb
    clear hb
    go_wp2_with fail
    have eN:=hJ (bt aC.out gT.out)
    clear hHeld
    refine hK.out _ _ (aD.out _ eN.out) (fun hHeld=>?_)
    clear hK K
    try simp only [PT]
    exact wpAnyH_cast (by kernel_rfl) (eA  v41 eN)
    refine .cons rfl (fun K hK=>?_) ?_
    go_simp
    have eO:=hJ ((Below.refl v.heap.size v).alloc (Nat.le_refl _) (.cells #[.bool false,.slice none 0 0,.bool false,.slice none 0 0,.bool false,.slice none 0 0,.bool false,.slice none 0 0] 134))
    have dD:=hJ (BX.lit v 134 #[.bool false,.slice none 0 0,.bool false,.slice none 0 0,.bool false,.slice none 0 0,.bool false,.slice none 0 0])
    obtain ⟨v42,hV⟩:=nmz (World.alloc v (.cells #[.bool false,.slice none 0 0,.bool false,.slice none 0 0,.bool false,.slice none 0 0,.bool false,.slice none 0 0] 134))
    obtain ⟨aA,hg⟩:=nmz (v.heap.size)
    rw [hV] at eO dD ⊢
    rw [hg] at dD ⊢
    have gU:=hJ (show x1.heap.size≤aA by rw [←hg]; exact aC.out.size)
    clear hV hg
    have eP:=hJ (bt aC.out eO.out)
    clear hHeld
    refine hK.out _ _ (aD.out _ eP.out) (fun hHeld=>?_)
    clear hK K
    try simp only [PT]
    exact wpAnyH_cast (by kernel_rfl) (bW aA v42 eP dD gU)
    refine .cons rfl (fun K hK=>?_) .nil
    go_simp
    have eQ:=hJ ((Below.refl v.heap.size v).alloc (Nat.le_refl _) (.cells #[.bool false,.slice none 0 0,.bool false,.slice none 0 0,.bool false,.slice none 0 0,.bool false,.slice none 0 0] 134))
    have dE:=hJ (BX.lit v 134 #[.bool false,.slice none 0 0,.bool false,.slice none 0 0,.bool false,.slice none 0 0,.bool false,.slice none 0 0])
    obtain ⟨v43,hV⟩:=nmz (World.alloc v (.cells #[.bool false,.slice none 0 0,.bool false,.slice none 0 0,.bool false,.slice none 0 0,.bool false,.slice none 0 0] 134))
    obtain ⟨aB,hg⟩:=nmz (v.heap.size)
    rw [hV] at eQ dE ⊢
    rw [hg] at dE ⊢
    have gV:=hJ (show x1.heap.size≤aB by rw [←hg]; exact aC.out.size)
    clear hV hg
    have eR:=hJ (bt aC.out eQ.out)
    clear hHeld
    refine hK.out _ _ (aD.out _ eR.out) (fun hHeld=>?_)
    clear hK K
    try simp only [PT]
    exact wpAnyH_cast (by kernel_rfl) (bX aB v43 eR dE gV)
  have eS:∀ (aA:Nat) (v:World),Hid (Below x1.heap.size x1 v)→Hid (BX 134 v aA #[.bool false,.slice none 0 0,.bool false,.slice none 0 0,.bool false,.slice none 0 0,.bool false,.slice none 0 0])→Hid (x1.heap.size≤aA)→F 5 (Array.setIfInBounds L0 4 true) (Act.put a0 (some 7) (.pointer (some ⟨aA,0,none⟩))) v:=by
    intro aA v aC aE aK
    subst hF ha0 hL0
    simp only [PT] at bW bY ⊢
    have hHeld:=aD.out _ aC.out
    refine ryy [1,5] ?_
    refine .cons rfl (fun K hK=>?_) ?_
    go_simp
    go_at_call 101
    refine (coords_any s0 A0 n0 c0 t0 B0 m0 d0 s1 A1 n1 c1 t1 B1 m1 d1 v).mono ?_
    rintro e v44 ⟨rfl,hb⟩
    have eT:=hJ hb
    clear hb
    go_wp2_with fail
    have eU:=hJ (bt aC.out eT.out)
    have gW:=hJ (BX.new aE.out eT.out)
    clear hHeld
    refine hK.out _ _ (aD.out _ eU.out) (fun hHeld=>?_)
    clear hK K
    try simp only [PT]
    exact wpAnyH_cast (by kernel_rfl) (bW aA v44 eU gW aK)
    refine .cons rfl (fun K hK=>?_) .nil
    go_simp
    have dF:=hJ ((Below.refl v.heap.size v).alloc (Nat.le_refl _) (.cells #[.bool false,.slice none 0 0,.bool false,.slice none 0 0,.bool false,.slice none 0 0,.bool false,.slice none 0 0] 134))
    have dG:=hJ (BX.lit v 134 #[.bool false,.slice none 0 0,.bool false,.slice none 0 0,.bool false,.slice none 0 0,.bool false,.slice none 0 0])
    obtain ⟨v45,hV⟩:=nmz (World.alloc v (.cells #[.bool false,.slice none 0 0,.bool false,.slice none 0 0,.bool false,.slice none 0 0,.bool false,.slice none 0 0] 134))
    obtain ⟨aB,hg⟩:=nmz (v.heap.size)
    rw [hV] at dF dG ⊢
    rw [hg] at dG ⊢
    have gX:=hJ (show x1.heap.size≤aB by rw [←hg]; exact aC.out.size)
    have gY:=hJ (show aA≠aB by have:=aE.out.lt; rw [hg] at this; omega)
    clear hV hg
    have eV:=hJ (bt aC.out dF.out)
    have gZ:=hJ (BX.new aE.out dF.out)
    clear hHeld
    refine hK.out _ _ (aD.out _ eV.out) (fun hHeld=>?_)
    clear hK K
    try simp only [PT]
    exact wpAnyH_cast (by kernel_rfl) (bY aA aB v45 eV gZ aK dG gX (hJ gY.out))
  have eW:∀ (aB:Nat) (v:World),Hid (Below x1.heap.size x1 v)→Hid (BX 134 v aB #[.bool false,.slice none 0 0,.bool false,.slice none 0 0,.bool false,.slice none 0 0,.bool false,.slice none 0 0])→Hid (x1.heap.size≤aB)→F 5 (Array.setIfInBounds L0 5 true) (Act.put a0 (some 8) (.pointer (some ⟨aB,0,none⟩))) v:=by
    intro aB v aC aJ aL
    subst hF ha0 hL0
    simp only [PT] at bX bY ⊢
    have hHeld:=aD.out _ aC.out
    refine ryy [1,4] ?_
    refine .cons rfl (fun K hK=>?_) ?_
    go_simp
    go_at_call 101
    refine (coords_any s0 A0 n0 c0 t0 B0 m0 d0 s1 A1 n1 c1 t1 B1 m1 d1 v).mono ?_
    rintro e v46 ⟨rfl,hb⟩
    have eX:=hJ hb
    clear hb
    go_wp2_with fail
    have eY:=hJ (bt aC.out eX.out)
    have hA:=hJ (BX.new aJ.out eX.out)
    clear hHeld
    refine hK.out _ _ (aD.out _ eY.out) (fun hHeld=>?_)
    clear hK K
    try simp only [PT]
    exact wpAnyH_cast (by kernel_rfl) (bX aB v46 eY hA aL)
    refine .cons rfl (fun K hK=>?_) .nil
    go_simp
    have dH:=hJ ((Below.refl v.heap.size v).alloc (Nat.le_refl _) (.cells #[.bool false,.slice none 0 0,.bool false,.slice none 0 0,.bool false,.slice none 0 0,.bool false,.slice none 0 0] 134))
    have dI:=hJ (BX.lit v 134 #[.bool false,.slice none 0 0,.bool false,.slice none 0 0,.bool false,.slice none 0 0,.bool false,.slice none 0 0])
    obtain ⟨v47,hV⟩:=nmz (World.alloc v (.cells #[.bool false,.slice none 0 0,.bool false,.slice none 0 0,.bool false,.slice none 0 0,.bool false,.slice none 0 0] 134))
    obtain ⟨aA,hg⟩:=nmz (v.heap.size)
    rw [hV] at dH dI ⊢
    rw [hg] at dI ⊢
    have hB:=hJ (show x1.heap.size≤aA by rw [←hg]; exact aC.out.size)
    have hC:=hJ (show aB≠aA by have:=aJ.out.lt; rw [hg] at this; omega)
    clear hV hg
    have eZ:=hJ (bt aC.out dH.out)
    have hD:=hJ (BX.new aJ.out dH.out)
    clear hHeld
    refine hK.out _ _ (aD.out _ eZ.out) (fun hHeld=>?_)
    clear hK K
    try simp only [PT]
    exact wpAnyH_cast (by kernel_rfl) (bY aA aB v47 eZ dI hB hD aL (hJ hC.out.symm))
  subst hF ha0 hL0
  simp only [PT] at eM eS eW
  refine ryy [1,4,5] ?_
  refine .cons rfl (fun K hK=>?_) ?_
  go_simp
  go_at_call 101
  refine (coords_any s0 A0 n0 c0 t0 B0 m0 d0 s1 A1 n1 c1 t1 B1 m1 d1 v2).mono ?_
  rintro e v48 ⟨rfl,hb⟩
  have hE:=hJ hb
  clear hb
  go_wp2_with fail
  have fA:=hJ (bt bG.out hE.out)
  clear hHeld
  refine hK.out _ _ (aD.out _ fA.out) (fun hHeld=>?_)
  clear hK K
  try simp only [PT]
  exact wpAnyH_cast (by kernel_rfl) (eM  v48 fA)
  refine .cons rfl (fun K hK=>?_) ?_
  go_simp
  have fB:=hJ ((Below.refl v2.heap.size v2).alloc (Nat.le_refl _) (.cells #[.bool false,.slice none 0 0,.bool false,.slice none 0 0,.bool false,.slice none 0 0,.bool false,.slice none 0 0] 134))
  have dJ:=hJ (BX.lit v2 134 #[.bool false,.slice none 0 0,.bool false,.slice none 0 0,.bool false,.slice none 0 0,.bool false,.slice none 0 0])
  obtain ⟨v49,hV⟩:=nmz (World.alloc v2 (.cells #[.bool false,.slice none 0 0,.bool false,.slice none 0 0,.bool false,.slice none 0 0,.bool false,.slice none 0 0] 134))
  obtain ⟨aA,hg⟩:=nmz (v2.heap.size)
  rw [hV] at fB dJ ⊢
  rw [hg] at dJ ⊢
  have hG:=hJ (show x1.heap.size≤aA by rw [←hg]; exact bG.out.size)
  clear hV hg
  have fC:=hJ (bt bG.out fB.out)
  clear hHeld
  refine hK.out _ _ (aD.out _ fC.out) (fun hHeld=>?_)
  clear hK K
  try simp only [PT]
  exact wpAnyH_cast (by kernel_rfl) (eS aA v49 fC dJ hG)
  refine .cons rfl (fun K hK=>?_) .nil
  go_simp
  have fD:=hJ ((Below.refl v2.heap.size v2).alloc (Nat.le_refl _) (.cells #[.bool false,.slice none 0 0,.bool false,.slice none 0 0,.bool false,.slice none 0 0,.bool false,.slice none 0 0] 134))
  have dK:=hJ (BX.lit v2 134 #[.bool false,.slice none 0 0,.bool false,.slice none 0 0,.bool false,.slice none 0 0,.bool false,.slice none 0 0])
  obtain ⟨v50,hV⟩:=nmz (World.alloc v2 (.cells #[.bool false,.slice none 0 0,.bool false,.slice none 0 0,.bool false,.slice none 0 0,.bool false,.slice none 0 0] 134))
  obtain ⟨aB,hg⟩:=nmz (v2.heap.size)
  rw [hV] at fD dK ⊢
  rw [hg] at dK ⊢
  have hH:=hJ (show x1.heap.size≤aB by rw [←hg]; exact bG.out.size)
  clear hV hg
  have fE:=hJ (bt bG.out fD.out)
  clear hHeld
  refine hK.out _ _ (aD.out _ fE.out) (fun hHeld=>?_)
  clear hK K
  try simp only [PT]
  exact wpAnyH_cast (by kernel_rfl) (eW aB v50 fE dK hH)
theorem rcmp2_any (X Y D X' Y' D':Int) (w:World) (h:Pq X Y D) (h':Pq X' Y' D') :
    Calls Tryz.prog 120 #[.agg #[.int .i64 X,.int .i64 Y,.int .i64 D],.agg #[.int .i64 X',.int .i64 Y',.int .i64 D']] w fun e w'=>e=.returned (.int .i64 (rcV X Y D X' Y' D'))∧Below w.heap.size w w':=by
  have HA:=hJ (pq_nk h)
  have HB:=hJ (pq_nk h')
  clear h h'
  obtain ⟨u,hu⟩:=nmz (X*D' - X'*D)
  obtain ⟨cu,hcu⟩:=nmz (cmpI u 0)
  have aD:=hJ (show cmpI (X*D') (X'*D)=cu by rw [cm_sub,hu]; exact hcu)
  have aF:=hJ hcu
  have Wu:=hJ (show IntKind.i64.wrap (X*D' - X'*D)=u by rw [hu]; exact i6_wrap (by rw [←hu]; exact nk_i6 (nk_sub (nk_mul HA.out.1.1 HB.out.2) (nk_mul HB.out.1.1 HA.out.2)) (by decide)))
  clear hu hcu
  obtain ⟨v,hv⟩:=nmz (Y*D' - Y'*D)
  obtain ⟨cv,hcv⟩:=nmz (cmpI v 0)
  have aG:=hJ (show cmpI (Y*D') (Y'*D)=cv by rw [cm_sub,hv]; exact hcv)
  have aH:=hJ hcv
  have Wv:=hJ (show IntKind.i64.wrap (Y*D' - Y'*D)=v by rw [hv]; exact i6_wrap (by rw [←hv]; exact nk_i6 (nk_sub (nk_mul HA.out.1.2 HB.out.2) (nk_mul HB.out.1.2 HA.out.2)) (by decide)))
  clear hv hcv
  obtain ⟨x1,aA⟩:=nmz ((w.alloc (.cells #[.int .i64 X,.int .i64 Y,.int .i64 D] 32)).alloc (.cells #[.int .i64 X',.int .i64 Y',.int .i64 D'] 32))
  have aE:=hJ (show Below w.heap.size w x1 by rw [←aA]; exact (((Below.refl _ _).alloc (Nat.le_refl _) _).alloc (by simp only [World.size_alloc]; omega) _))
  have aB:=hJ (show BX 32 x1 w.heap.size #[.int .i64 X,.int .i64 Y,.int .i64 D] by rw [←aA]; exact ((BX.at rfl).alloc _))
  have aC:=hJ (show BX 32 x1 (w.heap.size+1) #[.int .i64 X',.int .i64 Y',.int .i64 D'] by rw [←aA]; exact (BX.at (by simp only [World.size_alloc])))
  have aI:=aB.out.cell 0 rfl
  have aJ:=aC.out.cell 2 rfl
  have aK:IntKind.i64.wrap (X*D')=X*D':=i6_wrap (nk_i6 (nk_mul HA.out.1.1 HB.out.2) (by decide))
  have aL:=aC.out.cell 0 rfl
  have aM:=aB.out.cell 2 rfl
  have aN:IntKind.i64.wrap (X'*D)=X'*D:=i6_wrap (nk_i6 (nk_mul HB.out.1.1 HA.out.2) (by decide))
  have aO:=Wu.out
  go_enter Tryz.func120,Tryz.ntmps120
  go_wp2_with fail
  clear aA aI aJ aK aL aM aN aO
  refine (rsign_any u x1).mono ?_
  rw [aF.out]
  rintro e w6 ⟨rfl,rfl⟩
  by_cases hz:cu=0
  · subst hz
    have HV:=hJ (show rcV X Y D X' Y' D'=cv by rw [rcV,aD.out,if_pos rfl]; exact aG.out)
    have aP:=aB.out.cell 1 rfl
    have aQ:=aC.out.cell 2 rfl
    have aR:IntKind.i64.wrap (Y*D')=Y*D':=i6_wrap (nk_i6 (nk_mul HA.out.1.2 HB.out.2) (by decide))
    have aS:=aC.out.cell 1 rfl
    have aT:=aB.out.cell 2 rfl
    have aU:IntKind.i64.wrap (Y'*D)=Y'*D:=i6_wrap (nk_i6 (nk_mul HB.out.1.2 HA.out.2) (by decide))
    have aV:=Wv.out
    go_wp2_with fail
    clear aP aQ aR aS aT aU aV
    refine (rsign_any v x1).mono ?_
    rw [aH.out]
    rintro e w11 ⟨rfl,rfl⟩
    go_wp2
    go_ret
    exact ⟨by rw [HV.out] <;> rfl,aE.out⟩
  · have ez:(cu == 0)=false:=by simp [hz]
    have HV:=hJ (show rcV X Y D X' Y' D'=cu by rw [rcV,aD.out,if_neg hz])
    clear hz
    go_wp2
    go_ret
    exact ⟨by rw [HV.out] <;> rfl,aE.out⟩
theorem rbetween_any (ax ay da bx by' db cx cy dc:Int) (w:World) (ha:Pq ax ay da) (hb0:Pq bx by' db) (hc0:Pq cx cy dc) :
    Calls Tryz.prog 48 #[.agg #[.int .i64 ax,.int .i64 ay,.int .i64 da],.agg #[.int .i64 bx,.int .i64 by',.int .i64 db],.agg #[.int .i64 cx,.int .i64 cy,.int .i64 dc]] w fun e w'=>e=.returned (.bool (btV ax ay da bx by' db cx cy dc))∧Below w.heap.size w w':=by
  have aF:=hJ ha
  have aN:=hJ hb0
  have aG:=hJ hc0
  clear ha hb0 hc0
  obtain ⟨sd,hsd⟩:=nmz (cmpI (arN ax ay da bx by' db cx cy dc) 0)
  have aB:=hJ hsd
  obtain ⟨r1,hr1⟩:=nmz (rcV ax ay da cx cy dc)
  obtain ⟨r2,hr2⟩:=nmz (rcV cx cy dc bx by' db)
  obtain ⟨r3,hr3⟩:=nmz (r1*r2)
  have aO:=hJ hr1
  have aP:=hJ hr2
  have aY:=hJ hr3
  have WR:=hJ (show IntKind.i64.wrap (r1*r2)=r3 by rw [←hr3,←hr1,←hr2]; exact i6_wrap (rc_i6 _ _ _ _ _ _ _ _ _ _ _ _))
  clear hsd hr1 hr2 hr3
  by_cases hs:sd=0
  · have es:(sd == 0)=true:=by simp [hs]
    have aQ:=hJ (show decide (sd=0)=true from decide_eq_true hs)
    have aZ:=hJ hs
    clear hs
    obtain ⟨x1,aH⟩:=nmz (((w.alloc (.cells #[.int .i64 ax,.int .i64 ay,.int .i64 da] 32)).alloc (.cells #[.int .i64 bx,.int .i64 by',.int .i64 db] 32)).alloc (.cells #[.int .i64 cx,.int .i64 cy,.int .i64 dc] 32))
    have bA:=hJ (show Below w.heap.size w x1 by rw [←aH]; exact ((((Below.refl _ _).alloc (Nat.le_refl _) _).alloc (by simp only [World.size_alloc]; omega) _).alloc (by simp only [World.size_alloc]; omega) _))
    have aI:=hJ (show BX 32 x1 w.heap.size #[.int .i64 ax,.int .i64 ay,.int .i64 da] by rw [←aH]; exact (((BX.at rfl).alloc _).alloc _))
    have aJ:=hJ (show BX 32 x1 (w.heap.size+1) #[.int .i64 bx,.int .i64 by',.int .i64 db] by rw [←aH]; exact ((BX.at (by simp only [World.size_alloc])).alloc _))
    have aK:=hJ (show BX 32 x1 (w.heap.size+2) #[.int .i64 cx,.int .i64 cy,.int .i64 dc] by rw [←aH]; exact (BX.at (by simp only [World.size_alloc])))
    have bF:=aI.out.cell 0 rfl
    have bG:=aI.out.cell 1 rfl
    have bH:=aI.out.cell 2 rfl
    have bJ:=aJ.out.cell 0 rfl
    have bK:=aJ.out.cell 1 rfl
    have bL:=aJ.out.cell 2 rfl
    have bM:=aK.out.cell 0 rfl
    have bN:=aK.out.cell 1 rfl
    have bO:=aK.out.cell 2 rfl
    go_enter Tryz.func48,Tryz.ntmps48
    go_wp2_with fail
    clear aH bF bG bH bJ bK bL bM bN bO
    refine (rside6_any ax ay da bx by' db cx cy dc x1 aF.out aN.out aG.out).mono ?_
    rw [aB.out]
    rintro e w11 ⟨rfl,hb⟩
    have aA:=hJ hb
    clear hb
    by_cases hg:0≤r3
    · have aL:=hJ (show decide (0≤r3)=true from decide_eq_true hg)
      clear hg
      have aR:=WR.out
      have aC:=hJ (BX.new aI.out aA.out)
      have aD:=hJ (BX.new aK.out aA.out)
      have aE:=hJ (BX.new aJ.out aA.out)
      have aS:Hid (∀ w',Below w11.heap.size w11 w'→(fun w':World=>w'.cell? ⟨w.heap.size,0,none⟩=some (.int .i64 ax)∧w'.cell? ⟨w.heap.size,1,none⟩=some (.int .i64 ay)∧w'.cell? ⟨w.heap.size,2,none⟩=some (.int .i64 da)∧w'.cell? ⟨w.heap.size+2,0,none⟩=some (.int .i64 cx)∧w'.cell? ⟨w.heap.size+2,1,none⟩=some (.int .i64 cy)∧w'.cell? ⟨w.heap.size+2,2,none⟩=some (.int .i64 dc)∧w'.cell? ⟨w.heap.size+1,0,none⟩=some (.int .i64 bx)∧w'.cell? ⟨w.heap.size+1,1,none⟩=some (.int .i64 by')∧w'.cell? ⟨w.heap.size+1,2,none⟩=some (.int .i64 db)∧Below w11.heap.size w11 w') w'):=hJ (fun w' hb=>⟨(BX.new aC.out hb).cell 0 rfl,(BX.new aC.out hb).cell 1 rfl,(BX.new aC.out hb).cell 2 rfl,(BX.new aD.out hb).cell 0 rfl,(BX.new aD.out hb).cell 1 rfl,(BX.new aD.out hb).cell 2 rfl,(BX.new aE.out hb).cell 0 rfl,(BX.new aE.out hb).cell 1 rfl,(BX.new aE.out hb).cell 2 rfl,hb⟩)
      go_wp2_with fail
      clear aR
      obtain ⟨v12,hv12⟩:=nmz (World.drew w11)
      have bP:=hJ (show Below w11.heap.size w11 v12 by rw [←hv12]; exact (Below.refl _ _).drew)
      refine whd aS hv12 (fun hHeld=>?_)
      clear hv12
      refine tq 0 ?_
      refine tq 1 ?_
      refine tq 3 ?_
      refine tq 4 ?_
      try simp only [PT]
      refine ryy [2] ?_
      refine .cons rfl (fun K hK=>?_) .nil
      go_simp
      go_at_call 120
      refine (rcmp2_any ax ay da cx cy dc v12 aF.out aG.out).mono ?_
      rw [aO.out]
      rintro e v13 ⟨rfl,hb⟩
      have bQ:=hJ hb
      clear hb
      go_wp2_with fail
      have bB:=hJ (bt bP.out bQ.out)
      clear hHeld
      refine hK.out _ _ (aS.out _ bB.out) (fun hHeld=>?_)
      clear hK K
      try simp only [PT]
      refine ryy [5] ?_
      refine .cons rfl (fun K hK=>?_) .nil
      go_simp
      go_at_call 120
      refine (rcmp2_any cx cy dc bx by' db v13 aG.out aN.out).mono ?_
      rw [aP.out]
      rintro e v14 ⟨rfl,hb⟩
      have bR:=hJ hb
      clear hb
      go_wp2_with fail
      have bC:=hJ (bt bB.out bR.out)
      clear hHeld
      refine hK.out _ _ (aS.out _ bC.out) (fun hHeld=>?_)
      clear hK K
      try simp only [PT]
      refine tk 6 (.int .i64 r3) ?_ ?_
      · intro w hSw
        (try dsimp only at hSw)
        go_simp
        first | (rw [WR.out]) | rfl
      try simp only [PT]
      refine tk 7 (.bool true) ?_ ?_
      · intro w hSw
        (try dsimp only at hSw)
        go_simp
        have hyb:=of_decide_eq_true aL.out
        omega
      refine tq 8 ?_
      try simp only [PT]
      refine wpAnyH_done (by kernel_rfl) ?_ _
      clear hHeld
      have aT:=hJ (bt (bt bA.out aA.out) bC.out)
      go_wp2
      go_ret
      exact ⟨by unfold btV; rw [bt_ref aF.out.1.1 (cm_z (aB.out.trans aZ.out)),aB.out,aQ.out,aO.out,aP.out,aY.out,aL.out]; rfl,aT.out⟩
    · have aL:=hJ (show decide (0≤r3)=false from decide_eq_false hg)
      clear hg
      have aR:=WR.out
      have aC:=hJ (BX.new aI.out aA.out)
      have aD:=hJ (BX.new aK.out aA.out)
      have aE:=hJ (BX.new aJ.out aA.out)
      have aU:Hid (∀ w',Below w11.heap.size w11 w'→(fun w':World=>w'.cell? ⟨w.heap.size,0,none⟩=some (.int .i64 ax)∧w'.cell? ⟨w.heap.size,1,none⟩=some (.int .i64 ay)∧w'.cell? ⟨w.heap.size,2,none⟩=some (.int .i64 da)∧w'.cell? ⟨w.heap.size+2,0,none⟩=some (.int .i64 cx)∧w'.cell? ⟨w.heap.size+2,1,none⟩=some (.int .i64 cy)∧w'.cell? ⟨w.heap.size+2,2,none⟩=some (.int .i64 dc)∧w'.cell? ⟨w.heap.size+1,0,none⟩=some (.int .i64 bx)∧w'.cell? ⟨w.heap.size+1,1,none⟩=some (.int .i64 by')∧w'.cell? ⟨w.heap.size+1,2,none⟩=some (.int .i64 db)∧Below w11.heap.size w11 w') w'):=hJ (fun w' hb=>⟨(BX.new aC.out hb).cell 0 rfl,(BX.new aC.out hb).cell 1 rfl,(BX.new aC.out hb).cell 2 rfl,(BX.new aD.out hb).cell 0 rfl,(BX.new aD.out hb).cell 1 rfl,(BX.new aD.out hb).cell 2 rfl,(BX.new aE.out hb).cell 0 rfl,(BX.new aE.out hb).cell 1 rfl,(BX.new aE.out hb).cell 2 rfl,hb⟩)
      go_wp2_with fail
      clear aR
      obtain ⟨v15,hv15⟩:=nmz (World.drew w11)
      have bS:=hJ (show Below w11.heap.size w11 v15 by rw [←hv15]; exact (Below.refl _ _).drew)
      refine whd aU hv15 (fun hHeld=>?_)
      clear hv15
      refine tq 0 ?_
      refine tq 1 ?_
      refine tq 3 ?_
      refine tq 4 ?_
      try simp only [PT]
      refine ryy [2] ?_
      refine .cons rfl (fun K hK=>?_) .nil
      go_simp
      go_at_call 120
      refine (rcmp2_any ax ay da cx cy dc v15 aF.out aG.out).mono ?_
      rw [aO.out]
      rintro e v16 ⟨rfl,hb⟩
      have bT:=hJ hb
      clear hb
      go_wp2_with fail
      have bD:=hJ (bt bS.out bT.out)
      clear hHeld
      refine hK.out _ _ (aU.out _ bD.out) (fun hHeld=>?_)
      clear hK K
      try simp only [PT]
      refine ryy [5] ?_
      refine .cons rfl (fun K hK=>?_) .nil
      go_simp
      go_at_call 120
      refine (rcmp2_any cx cy dc bx by' db v16 aG.out aN.out).mono ?_
      rw [aP.out]
      rintro e v17 ⟨rfl,hb⟩
      have bU:=hJ hb
      clear hb
      go_wp2_with fail
      have bE:=hJ (bt bD.out bU.out)
      clear hHeld
      refine hK.out _ _ (aU.out _ bE.out) (fun hHeld=>?_)
      clear hK K
      try simp only [PT]
      refine tk 6 (.int .i64 r3) ?_ ?_
      · intro w hSw
        (try dsimp only at hSw)
        go_simp
        first | (rw [WR.out]) | rfl
      try simp only [PT]
      refine tk 7 (.bool false) ?_ ?_
      · intro w hSw
        (try dsimp only at hSw)
        go_simp
        have hyb:=of_decide_eq_false aL.out
        omega
      refine tq 8 ?_
      try simp only [PT]
      refine wpAnyH_done (by kernel_rfl) ?_ _
      clear hHeld
      have aT:=hJ (bt (bt bA.out aA.out) bE.out)
      go_wp2
      go_ret
      exact ⟨by unfold btV; rw [bt_ref aF.out.1.1 (cm_z (aB.out.trans aZ.out)),aB.out,aQ.out,aO.out,aP.out,aY.out,aL.out]; rfl,aT.out⟩
  · have es:(sd == 0)=false:=by simp [hs]
    have aQ:=hJ (show decide (sd=0)=false from decide_eq_false hs)
    clear hs
    obtain ⟨x18,aM⟩:=nmz (((w.alloc (.cells #[.int .i64 ax,.int .i64 ay,.int .i64 da] 32)).alloc (.cells #[.int .i64 bx,.int .i64 by',.int .i64 db] 32)).alloc (.cells #[.int .i64 cx,.int .i64 cy,.int .i64 dc] 32))
    have bV:=hJ (show Below w.heap.size w x18 by rw [←aM]; exact ((((Below.refl _ _).alloc (Nat.le_refl _) _).alloc (by simp only [World.size_alloc]; omega) _).alloc (by simp only [World.size_alloc]; omega) _))
    have aV:=hJ (show BX 32 x18 w.heap.size #[.int .i64 ax,.int .i64 ay,.int .i64 da] by rw [←aM]; exact (((BX.at rfl).alloc _).alloc _))
    have aW:=hJ (show BX 32 x18 (w.heap.size+1) #[.int .i64 bx,.int .i64 by',.int .i64 db] by rw [←aM]; exact ((BX.at (by simp only [World.size_alloc])).alloc _))
    have aX:=hJ (show BX 32 x18 (w.heap.size+2) #[.int .i64 cx,.int .i64 cy,.int .i64 dc] by rw [←aM]; exact (BX.at (by simp only [World.size_alloc])))
    have bW:=aV.out.cell 0 rfl
    have bX:=aV.out.cell 1 rfl
    have bY:=aV.out.cell 2 rfl
    have bZ:=aW.out.cell 0 rfl
    have cA:=aW.out.cell 1 rfl
    have cB:=aW.out.cell 2 rfl
    have cC:=aX.out.cell 0 rfl
    have cD:=aX.out.cell 1 rfl
    have cE:=aX.out.cell 2 rfl
    go_enter Tryz.func48,Tryz.ntmps48
    go_wp2_with fail
    clear aM bW bX bY bZ cA cB cC cD cE
    refine (rside6_any ax ay da bx by' db cx cy dc x18 aF.out aN.out aG.out).mono ?_
    rw [aB.out]
    rintro e w28 ⟨rfl,hb⟩
    have cF:=hJ hb
    clear hb
    have cG:=hJ (bt bV.out cF.out)
    go_wp2
    go_ret
    exact ⟨by unfold btV; rw [aB.out,aQ.out]; rfl,cG.out⟩
end Go.Proofs.YteggneaefggbmaaGreat
