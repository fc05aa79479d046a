/- Contracts: onGrid, Side. Conditions: as each statement has them. -/
import Derived.Test.YtagakcficjcfhaaGreatAE
import Derived.Test.YtagakcficjcfhaaGreatEA
import Derived.Test.YtagakcficjcfhaaGreatEQ
namespace Go.Proofs.YtagakcficjcfhaaGreat
set_option maxRecDepth 100000
set_option maxHeartbeats 12800000
open Go.RowKit
attribute [local go_sem ↓] Go.wp_at_zero Go.wp_at_succ
set_option linter.unusedVariables false
set_option linter.unusedSimpArgs false
theorem hx3_0 {v0 v1 v2 v3 v4 v5 v6 v7 v8 v9 v10 v11 v12 v13 v14 v15 v16 v17 v18 v19 v20 v21 v22 v23:Value} (wx:World):(Instr.index 123 (.agg #[v0,v1,v2,v3,v4,v5,v6,v7,v8,v9,v10,v11,v12,v13,v14,v15,v16,v17,v18,v19,v20,v21,v22,v23]) (.int .i64 0)).run Tryz.prog wx=.ok (.agg #[v0,v1,v2,v3,v4,v5,v6,v7]) wx:=by
 first
  | kernel_rfl
  | simp [Instr.index,run_underlying Tryz.underlying123,asIntOf,go_sem]
theorem hx3_1 {v0 v1 v2 v3 v4 v5 v6 v7 v8 v9 v10 v11 v12 v13 v14 v15 v16 v17 v18 v19 v20 v21 v22 v23:Value} (wx:World):(Instr.index 123 (.agg #[v0,v1,v2,v3,v4,v5,v6,v7,v8,v9,v10,v11,v12,v13,v14,v15,v16,v17,v18,v19,v20,v21,v22,v23]) (.int .i64 1)).run Tryz.prog wx=.ok (.agg #[v8,v9,v10,v11,v12,v13,v14,v15]) wx:=by
 first
  | kernel_rfl
  | simp [Instr.index,run_underlying Tryz.underlying123,asIntOf,go_sem]
theorem hx3_2 {v0 v1 v2 v3 v4 v5 v6 v7 v8 v9 v10 v11 v12 v13 v14 v15 v16 v17 v18 v19 v20 v21 v22 v23:Value} (wx:World):(Instr.index 123 (.agg #[v0,v1,v2,v3,v4,v5,v6,v7,v8,v9,v10,v11,v12,v13,v14,v15,v16,v17,v18,v19,v20,v21,v22,v23]) (.int .i64 2)).run Tryz.prog wx=.ok (.agg #[v16,v17,v18,v19,v20,v21,v22,v23]) wx:=by
 first
  | kernel_rfl
  | simp [Instr.index,run_underlying Tryz.underlying123,asIntOf,go_sem]
theorem fr3 {p q:Int} (h:Fr p q):0 < q∧p.natAbs < lim∧q.natAbs < lim:=⟨h.1.1,h.2.1,h.2.2⟩
theorem G3_size:(Tryz.prog.info? 120).map (·.size)=some 6:=by kernel_rfl
theorem pw_zero {p q u v:Int} (h:pwE p q u v=0):(q=1∧v=1)∧(pwX p q u v=p∧pwY p q u v=u)∧vdP (p,u)=0:=by
 have h0:=h
 unfold pwE ogC at h
 by_cases hc:eiC whC p q u v=0
 ·rw [if_pos hc] at h
  have hc2:=hc
  unfold eiC at hc
  have h1:whC p q=0:=by
   by_cases e:whC p q=0
   ·exact e
   rw [if_neg e] at hc; exact absurd hc e
  rw [if_pos h1] at hc
  have k1:isSm p=true∧q=1:=by
   by_cases e:isSm p=true∧q=1
   ·exact e
   unfold whC at h1; rw [if_neg e] at h1; exact absurd h1 (by decide)
  have k2:isSm u=true∧v=1:=by
   by_cases e:isSm u=true∧v=1
   ·exact e
   unfold whC at hc; rw [if_neg e] at hc; exact absurd hc (by decide)
  have e1:pwA p q u v=p:=by unfold pwA eiA; rw [if_pos ⟨h1,hc⟩]; exact if_pos k1
  have e2:pwB p q u v=u:=by unfold pwB eiB; rw [if_pos ⟨h1,hc⟩]; exact if_pos k2
  rw [e1,e2] at h
  exact ⟨⟨k1.2,k2.2⟩,⟨by unfold pwX; rw [if_pos h0,e1],by unfold pwY; rw [if_pos h0,e2]⟩,h⟩
 ·rw [if_neg hc] at h
  exact absurd h hc
/-- The value and the error of Side: P and C are those of the area. -/
def siV (p0 q0 p1 q1 p2 q2 p3 q3 p4 q4 p5 q5 P C:Int):Int:=if pwE p0 q0 p1 q1=0∧pwE p2 q2 p3 q3=0∧pwE p4 q4 p5 q5=0 then sdV p0 p1 p2 p3 p4 p5 else cmpI (feP C P) 0
def siC (p0 q0 p1 q1 p2 q2 p3 q3 p4 q4 p5 q5 C:Int):Int:=if pwE p0 q0 p1 q1=0∧pwE p2 q2 p3 q3=0∧pwE p4 q4 p5 q5=0 then 0 else C
theorem og3_any (p0 q0 p1 q1 p2 q2 p3 q3 p4 q4 p5 q5:Int) (s0:Bool) (A0:Option Addr) (n0 c0:Nat) (t0:Bool) (B0:Option Addr) (m0 d0:Nat) (s1:Bool) (A1:Option Addr) (n1 c1:Nat) (t1:Bool) (B1:Option Addr) (m1 d1:Nat) (s2:Bool) (A2:Option Addr) (n2 c2:Nat) (t2:Bool) (B2:Option Addr) (m2 d2:Nat) (s3:Bool) (A3:Option Addr) (n3 c3:Nat) (t3:Bool) (B3:Option Addr) (m3 d3:Nat) (s4:Bool) (A4:Option Addr) (n4 c4:Nat) (t4:Bool) (B4:Option Addr) (m4 d4:Nat) (s5:Bool) (A5:Option Addr) (n5 c5:Nat) (t5:Bool) (B5:Option Addr) (m5 d5:Nat) (w:World) (h0:PF w s0 A0 n0 c0 t0 B0 m0 d0 p0 q0) (h1:PF w s1 A1 n1 c1 t1 B1 m1 d1 p1 q1) (h2:PF w s2 A2 n2 c2 t2 B2 m2 d2 p2 q2) (h3:PF w s3 A3 n3 c3 t3 B3 m3 d3 p3 q3) (h4:PF w s4 A4 n4 c4 t4 B4 m4 d4 p4 q4) (h5:PF w s5 A5 n5 c5 t5 B5 m5 d5 p5 q5) (f0:Fr p0 q0) (f1:Fr p1 q1) (f2:Fr p2 q2) (f3:Fr p3 q3) (f4:Fr p4 q4) (f5:Fr p5 q5) :
  Calls Tryz.prog 68 #[.agg #[.bool s0,.slice A0 n0 c0,.bool t0,.slice B0 m0 d0,.bool s1,.slice A1 n1 c1,.bool t1,.slice B1 m1 d1,.bool s2,.slice A2 n2 c2,.bool t2,.slice B2 m2 d2,.bool s3,.slice A3 n3 c3,.bool t3,.slice B3 m3 d3,.bool s4,.slice A4 n4 c4,.bool t4,.slice B4 m4 d4,.bool s5,.slice A5 n5 c5,.bool t5,.slice B5 m5 d5]] w fun e w'=>∃ l0 l1 l2 l3 l4 l5:Int,e=.returned (.tuple #[.agg #[.int .i64 l0,.int .i64 l1,.int .i64 l2,.int .i64 l3,.int .i64 l4,.int .i64 l5],.bool (decide (pwE p0 q0 p1 q1=0∧pwE p2 q2 p3 q3=0∧pwE p4 q4 p5 q5=0))])∧(pwE p0 q0 p1 q1=0∧pwE p2 q2 p3 q3=0∧pwE p4 q4 p5 q5=0→l0=pwX p0 q0 p1 q1∧l1=pwY p0 q0 p1 q1∧l2=pwX p2 q2 p3 q3∧l3=pwY p2 q2 p3 q3∧l4=pwX p4 q4 p5 q5∧l5=pwY p4 q4 p5 q5)∧Below w.heap.size w w':=by
 have bG:=hJ h0
 have bH:=hJ f0
 have bJ:=hJ h1
 have bK:=hJ f1
 have bL:=hJ h2
 have bM:=hJ f2
 have bN:=hJ h3
 have bO:=hJ f3
 have bP:=hJ h4
 have bQ:=hJ f4
 have bR:=hJ h5
 have bS:=hJ f5
 clear h0 f0 h1 f1 h2 f2 h3 f3 h4 f4 h5 f5
 obtain ⟨x1,aR⟩:=nmz ((w.alloc (.cells #[.bool s0,.slice A0 n0 c0,.bool t0,.slice B0 m0 d0,.bool s1,.slice A1 n1 c1,.bool t1,.slice B1 m1 d1,.bool s2,.slice A2 n2 c2,.bool t2,.slice B2 m2 d2,.bool s3,.slice A3 n3 c3,.bool t3,.slice B3 m3 d3,.bool s4,.slice A4 n4 c4,.bool t4,.slice B4 m4 d4,.bool s5,.slice A5 n5 c5,.bool t5,.slice B5 m5 d5] 123)).alloc (.cells #[.int .i64 0,.int .i64 0,.int .i64 0,.int .i64 0,.int .i64 0,.int .i64 0] 120))
 have cZ:=hJ (show Below w.heap.size w x1 by rw [←aR]; exact (((Below.refl _ _).alloc (Nat.le_refl _) _).alloc (by simp only [World.size_alloc]; omega) _))
 have dA:=hJ (show BX 123 x1 w.heap.size #[.bool s0,.slice A0 n0 c0,.bool t0,.slice B0 m0 d0,.bool s1,.slice A1 n1 c1,.bool t1,.slice B1 m1 d1,.bool s2,.slice A2 n2 c2,.bool t2,.slice B2 m2 d2,.bool s3,.slice A3 n3 c3,.bool t3,.slice B3 m3 d3,.bool s4,.slice A4 n4 c4,.bool t4,.slice B4 m4 d4,.bool s5,.slice A5 n5 c5,.bool t5,.slice B5 m5 d5] by rw [←aR]; exact ((BX.at rfl).alloc _))
 have dB:=hJ (show BX 120 x1 (w.heap.size+1) #[.int .i64 0,.int .i64 0,.int .i64 0,.int .i64 0,.int .i64 0,.int .i64 0] by rw [←aR]; exact (BX.at (by simp only [World.size_alloc])))
 have aK:=hJ (show w.heap.size≤w.heap.size+1 by omega)
 go_enter Tryz.func68,Tryz.ntmps68
 go_wp2_with (refine wpList_load_row rfl 123 _ rfl w.heap.size rfl 123 #[.bool s0,.slice A0 n0 c0,.bool t0,.slice B0 m0 d0,.bool s1,.slice A1 n1 c1,.bool t1,.slice B1 m1 d1,.bool s2,.slice A2 n2 c2,.bool t2,.slice B2 m2 d2,.bool s3,.slice A3 n3 c3,.bool t3,.slice B3 m3 d3,.bool s4,.slice A4 n4 c4,.bool t4,.slice B4 m4 d4,.bool s5,.slice A5 n5 c5,.bool t5,.slice B5 m5 d5] (0,0) _ dA.out Tryz.underlying123 rfl (by kernel_rfl) ?_)
 clear aR
 go_loopw [7,3] (fun tv tz0 wr=>∃ i:Nat,tv=.int .i64 (i:Int)∧Below w.heap.size w wr∧((i=0∧tz0=.bool false∧Hid (BX 120 wr (w.heap.size+1) #[.int .i64 0,.int .i64 0,.int .i64 0,.int .i64 0,.int .i64 0,.int .i64 0]))∨(i=1∧tz0=.bool true∧Hid (BX 120 wr (w.heap.size+1) #[.int .i64 (pwX p0 q0 p1 q1),.int .i64 (pwY p0 q0 p1 q1),.int .i64 0,.int .i64 0,.int .i64 0,.int .i64 0])∧Hid (pwE p0 q0 p1 q1=0))∨(i=2∧tz0=.bool true∧Hid (BX 120 wr (w.heap.size+1) #[.int .i64 (pwX p0 q0 p1 q1),.int .i64 (pwY p0 q0 p1 q1),.int .i64 (pwX p2 q2 p3 q3),.int .i64 (pwY p2 q2 p3 q3),.int .i64 0,.int .i64 0])∧Hid (pwE p0 q0 p1 q1=0)∧Hid (pwE p2 q2 p3 q3=0))∨(i=3∧tz0=.bool true∧Hid (BX 120 wr (w.heap.size+1) #[.int .i64 (pwX p0 q0 p1 q1),.int .i64 (pwY p0 q0 p1 q1),.int .i64 (pwX p2 q2 p3 q3),.int .i64 (pwY p2 q2 p3 q3),.int .i64 (pwX p4 q4 p5 q5),.int .i64 (pwY p4 q4 p5 q5)])∧Hid (pwE p0 q0 p1 q1=0)∧Hid (pwE p2 q2 p3 q3=0)∧Hid (pwE p4 q4 p5 q5=0)))) (fun tv _ _=>3 - (intOf tv).toNat)
 case atStart=>exact ⟨0,rfl,cZ.out,.inl ⟨rfl,rfl,dB⟩⟩
 case round =>
  obtain ⟨i2,rfl,hbel,hdis⟩:=hrel
  obtain ⟨wl2,rfl⟩:∃ W:World,W=wr:=⟨_,rfl⟩
  have aM:=hJ hbel
  clear hbel
  rcases hdis with ⟨rfl,rfl,aB⟩ | ⟨rfl,rfl,aB,aL⟩ | ⟨rfl,rfl,aB,aL,aN⟩ | ⟨rfl,rfl,aB,aL,aN,aS⟩
  ·(try rw [show ((0:Nat):Int)=0 from rfl])
   have aT:=hJ aB.out.lt
   have hix:∀ wx,(Instr.index 123 (.agg #[.bool s0,.slice A0 n0 c0,.bool t0,.slice B0 m0 d0,.bool s1,.slice A1 n1 c1,.bool t1,.slice B1 m1 d1,.bool s2,.slice A2 n2 c2,.bool t2,.slice B2 m2 d2,.bool s3,.slice A3 n3 c3,.bool t3,.slice B3 m3 d3,.bool s4,.slice A4 n4 c4,.bool t4,.slice B4 m4 d4,.bool s5,.slice A5 n5 c5,.bool t5,.slice B5 m5 d5]) (.int .i64 0)).run Tryz.prog wx=.ok (.agg #[.bool s0,.slice A0 n0 c0,.bool t0,.slice B0 m0 d0,.bool s1,.slice A1 n1 c1,.bool t1,.slice B1 m1 d1]) wx:=fun wx=>hx3_0 wx
   by_cases hw:pwE p0 q0 p1 q1=0
   ·have aL:=hJ hw
    clear hw
    obtain ⟨x3,aU⟩:=nmz (wl2.alloc (.cells #[.bool s0,.slice A0 n0 c0,.bool t0,.slice B0 m0 d0,.bool s1,.slice A1 n1 c1,.bool t1,.slice B1 m1 d1] 37))
    have bT:=hJ (show Below wl2.heap.size wl2 x3 by rw [←aU]; exact ((Below.refl _ _).alloc (Nat.le_refl _) _))
    have dD:=hJ (show BX 37 x3 wl2.heap.size #[.bool s0,.slice A0 n0 c0,.bool t0,.slice B0 m0 d0,.bool s1,.slice A1 n1 c1,.bool t1,.slice B1 m1 d1] by rw [←aU]; exact (BX.at rfl))
    obtain ⟨dE,dF,dG,dH,dI,dJ,dK,dL⟩:=dD.out.q8 0 1 2 3 4 5 6 7
    have aC:=hJ (bt aM.out bT.out)
    have aV:=hJ (PF.new bG.out aC.out)
    have aW:=hJ (PF.new bJ.out aC.out)
    go_wp2_with fail
    clear hix aU dE dF dG dH dI dJ dK dL
    refine (pwhole_any p0 q0 p1 q1 s0 A0 n0 c0 t0 B0 m0 d0 s1 A1 n1 c1 t1 B1 m1 d1 x3 aV.out aW.out ⟨fr3 bH.out,fr3 bK.out⟩).mono ?_
    rw [decide_eq_true aL.out]
    rintro e w12 ⟨rfl,hb⟩
    have bU:=hJ hb
    clear hb
    have aH:=hJ (bt bT.out bU.out)
    have aA:=hJ (BX.new aB.out aH.out)
    have dM:=aA.out.frozen 0
    have dN:=aA.out.cell 0 rfl
    have dO:=aA.out.frozen 1
    have dP:=aA.out.cell 1 rfl
    obtain ⟨x13,bV⟩:=nmz (World.setCell (World.setCell w12 ⟨w.heap.size+1,0,none⟩ (.int .i64 (pwX p0 q0 p1 q1))) ⟨w.heap.size+1,1,none⟩ (.int .i64 (pwY p0 q0 p1 q1)))
    have bW:=hJ (show sto w12 (w.heap.size+1) 0 [.int .i64 (pwX p0 q0 p1 q1),.int .i64 (pwY p0 q0 p1 q1)]=x13 from bV)
    have dQ:=hJ (show BX 120 x13 (w.heap.size+1) #[.int .i64 (pwX p0 q0 p1 q1),.int .i64 (pwY p0 q0 p1 q1),.int .i64 0,.int .i64 0,.int .i64 0,.int .i64 0] by rw [←bW.out]; exact BX.put aA.out _ _)
    have aI:=hJ (show Below w.heap.size w x13 by rw [←bW.out]; exact below_sto (bt aC.out bU.out) aK.out _ _)
    go_wp2_with fail
    clear dM dN dO dP bV
    go_roundw
    case rel=>exact ⟨1,by go_num,aI.out,.inr (.inl ⟨rfl,rfl,dQ,aL⟩)⟩
    case measure=>simp [intOf] <;> omega
   have aJ:=hJ hw
   clear hw
   obtain ⟨x14,aX⟩:=nmz (wl2.alloc (.cells #[.bool s0,.slice A0 n0 c0,.bool t0,.slice B0 m0 d0,.bool s1,.slice A1 n1 c1,.bool t1,.slice B1 m1 d1] 37))
   have bX:=hJ (show Below wl2.heap.size wl2 x14 by rw [←aX]; exact ((Below.refl _ _).alloc (Nat.le_refl _) _))
   have dR:=hJ (show BX 37 x14 wl2.heap.size #[.bool s0,.slice A0 n0 c0,.bool t0,.slice B0 m0 d0,.bool s1,.slice A1 n1 c1,.bool t1,.slice B1 m1 d1] by rw [←aX]; exact (BX.at rfl))
   obtain ⟨dS,dT,dU,dW,dX,dY,dZ,eA⟩:=dR.out.q8 0 1 2 3 4 5 6 7
   have aC:=hJ (bt aM.out bX.out)
   have aV:=hJ (PF.new bG.out aC.out)
   have aW:=hJ (PF.new bJ.out aC.out)
   go_wp2_with fail
   clear hix aX dS dT dU dW dX dY dZ eA
   refine (pwhole_any p0 q0 p1 q1 s0 A0 n0 c0 t0 B0 m0 d0 s1 A1 n1 c1 t1 B1 m1 d1 x14 aV.out aW.out ⟨fr3 bH.out,fr3 bK.out⟩).mono ?_
   rw [decide_eq_false aJ.out]
   rintro e w23 ⟨rfl,hb⟩
   have bY:=hJ hb
   clear hb
   have aH:=hJ (bt bX.out bY.out)
   have aA:=hJ (BX.new aB.out aH.out)
   have eB:=aA.out.frozen 0
   have eC:=aA.out.cell 0 rfl
   have eD:=aA.out.frozen 1
   have eE:=aA.out.cell 1 rfl
   obtain ⟨x24,bZ⟩:=nmz (World.setCell (World.setCell w23 ⟨w.heap.size+1,0,none⟩ (.int .i64 (pwX p0 q0 p1 q1))) ⟨w.heap.size+1,1,none⟩ (.int .i64 (pwY p0 q0 p1 q1)))
   have cA:=hJ (show sto w23 (w.heap.size+1) 0 [.int .i64 (pwX p0 q0 p1 q1),.int .i64 (pwY p0 q0 p1 q1)]=x24 from bZ)
   have aD:=hJ (show BX 120 x24 (w.heap.size+1) #[.int .i64 (pwX p0 q0 p1 q1),.int .i64 (pwY p0 q0 p1 q1),.int .i64 0,.int .i64 0,.int .i64 0,.int .i64 0] by rw [←cA.out]; exact BX.put aA.out _ _)
   obtain ⟨eF,eG,eH,eI⟩:=aD.out.q4 0 1 2 3
   have eJ:=aD.out.cell 4 rfl
   have eK:=aD.out.cell 5 rfl
   have eL:=aD.out.frozen 0
   have eM:=aD.out.cell 0 rfl
   have eN:=aD.out.frozen 1
   have eO:=aD.out.cell 1 rfl
   have eP:=aD.out.frozen 2
   have eQ:=aD.out.cell 2 rfl
   have eR:=aD.out.frozen 3
   have eS:=aD.out.cell 3 rfl
   have eT:=aD.out.frozen 4
   have eU:=aD.out.cell 4 rfl
   have eV:=aD.out.frozen 5
   have eW:=aD.out.cell 5 rfl
   obtain ⟨x31,cB⟩:=nmz (World.setCell (World.setCell (World.setCell (World.setCell (World.setCell (World.setCell x24 ⟨w.heap.size+1,0,none⟩ (.int .i64 (pwX p0 q0 p1 q1))) ⟨w.heap.size+1,1,none⟩ (.int .i64 (pwY p0 q0 p1 q1))) ⟨w.heap.size+1,2,none⟩ (.int .i64 0)) ⟨w.heap.size+1,3,none⟩ (.int .i64 0)) ⟨w.heap.size+1,4,none⟩ (.int .i64 0)) ⟨w.heap.size+1,5,none⟩ (.int .i64 0))
   have cC:=hJ (show sto x24 (w.heap.size+1) 0 [.int .i64 (pwX p0 q0 p1 q1),.int .i64 (pwY p0 q0 p1 q1),.int .i64 0,.int .i64 0,.int .i64 0,.int .i64 0]=x31 from cB)
   have eX:=hJ (show BX 120 x31 (w.heap.size+1) #[.int .i64 (pwX p0 q0 p1 q1),.int .i64 (pwY p0 q0 p1 q1),.int .i64 0,.int .i64 0,.int .i64 0,.int .i64 0] by rw [←cC.out]; exact BX.put aD.out _ _)
   have aI:=hJ (show Below w.heap.size w x24 by rw [←cA.out]; exact below_sto (bt aC.out bY.out) aK.out _ _)
   have aO:=hJ (show Below w.heap.size w x31 by rw [←cC.out]; exact below_sto aI.out aK.out _ _)
   go_wp2
   clear eB eC eD eE bZ eF eG eH eI eJ eK eL eM eN eO eP eQ eR eS eT eU eV eW cB
   exact bodyPost_ret (results_cell1 rfl _ _ _ _ _ _ _ rfl eX.out Tryz.underlying120 rfl G3_size) rfl ⟨(pwX p0 q0 p1 q1),(pwY p0 q0 p1 q1),0,0,0,0,by rw [decide_eq_false (show ¬(pwE p0 q0 p1 q1=0∧pwE p2 q2 p3 q3=0∧pwE p4 q4 p5 q5=0) from fun h=>aJ.out h.1)] <;> rfl,fun h=>absurd h.1 aJ.out,aO.out⟩
  ·(try rw [show ((1:Nat):Int)=1 from rfl])
   have aT:=hJ aB.out.lt
   have hix:∀ wx,(Instr.index 123 (.agg #[.bool s0,.slice A0 n0 c0,.bool t0,.slice B0 m0 d0,.bool s1,.slice A1 n1 c1,.bool t1,.slice B1 m1 d1,.bool s2,.slice A2 n2 c2,.bool t2,.slice B2 m2 d2,.bool s3,.slice A3 n3 c3,.bool t3,.slice B3 m3 d3,.bool s4,.slice A4 n4 c4,.bool t4,.slice B4 m4 d4,.bool s5,.slice A5 n5 c5,.bool t5,.slice B5 m5 d5]) (.int .i64 1)).run Tryz.prog wx=.ok (.agg #[.bool s2,.slice A2 n2 c2,.bool t2,.slice B2 m2 d2,.bool s3,.slice A3 n3 c3,.bool t3,.slice B3 m3 d3]) wx:=fun wx=>hx3_1 wx
   by_cases hw:pwE p2 q2 p3 q3=0
   ·have aN:=hJ hw
    clear hw
    obtain ⟨x32,aY⟩:=nmz (wl2.alloc (.cells #[.bool s2,.slice A2 n2 c2,.bool t2,.slice B2 m2 d2,.bool s3,.slice A3 n3 c3,.bool t3,.slice B3 m3 d3] 37))
    have cD:=hJ (show Below wl2.heap.size wl2 x32 by rw [←aY]; exact ((Below.refl _ _).alloc (Nat.le_refl _) _))
    have eY:=hJ (show BX 37 x32 wl2.heap.size #[.bool s2,.slice A2 n2 c2,.bool t2,.slice B2 m2 d2,.bool s3,.slice A3 n3 c3,.bool t3,.slice B3 m3 d3] by rw [←aY]; exact (BX.at rfl))
    obtain ⟨eZ,fA,fB,fC,fD,fE,fF,fG⟩:=eY.out.q8 0 1 2 3 4 5 6 7
    have aC:=hJ (bt aM.out cD.out)
    have aZ:=hJ (PF.new bL.out aC.out)
    have bA:=hJ (PF.new bN.out aC.out)
    go_wp2_with fail
    clear hix aY eZ fA fB fC fD fE fF fG
    refine (pwhole_any p2 q2 p3 q3 s2 A2 n2 c2 t2 B2 m2 d2 s3 A3 n3 c3 t3 B3 m3 d3 x32 aZ.out bA.out ⟨fr3 bM.out,fr3 bO.out⟩).mono ?_
    rw [decide_eq_true aN.out]
    rintro e w41 ⟨rfl,hb⟩
    have cE:=hJ hb
    clear hb
    have aH:=hJ (bt cD.out cE.out)
    have aA:=hJ (BX.new aB.out aH.out)
    have fH:=aA.out.frozen 2
    have fI:=aA.out.cell 2 rfl
    have fJ:=aA.out.frozen 3
    have fK:=aA.out.cell 3 rfl
    obtain ⟨x42,cF⟩:=nmz (World.setCell (World.setCell w41 ⟨w.heap.size+1,2,none⟩ (.int .i64 (pwX p2 q2 p3 q3))) ⟨w.heap.size+1,3,none⟩ (.int .i64 (pwY p2 q2 p3 q3)))
    have cG:=hJ (show sto w41 (w.heap.size+1) 2 [.int .i64 (pwX p2 q2 p3 q3),.int .i64 (pwY p2 q2 p3 q3)]=x42 from cF)
    have fL:=hJ (show BX 120 x42 (w.heap.size+1) #[.int .i64 (pwX p0 q0 p1 q1),.int .i64 (pwY p0 q0 p1 q1),.int .i64 (pwX p2 q2 p3 q3),.int .i64 (pwY p2 q2 p3 q3),.int .i64 0,.int .i64 0] by rw [←cG.out]; exact BX.put aA.out _ _)
    have aI:=hJ (show Below w.heap.size w x42 by rw [←cG.out]; exact below_sto (bt aC.out cE.out) aK.out _ _)
    go_wp2_with fail
    clear fH fI fJ fK cF
    go_roundw
    case rel=>exact ⟨2,by go_num,aI.out,.inr (.inr (.inl ⟨rfl,rfl,fL,aL,aN⟩))⟩
    case measure=>simp [intOf] <;> omega
   have aJ:=hJ hw
   clear hw
   obtain ⟨x43,bB⟩:=nmz (wl2.alloc (.cells #[.bool s2,.slice A2 n2 c2,.bool t2,.slice B2 m2 d2,.bool s3,.slice A3 n3 c3,.bool t3,.slice B3 m3 d3] 37))
   have cH:=hJ (show Below wl2.heap.size wl2 x43 by rw [←bB]; exact ((Below.refl _ _).alloc (Nat.le_refl _) _))
   have fM:=hJ (show BX 37 x43 wl2.heap.size #[.bool s2,.slice A2 n2 c2,.bool t2,.slice B2 m2 d2,.bool s3,.slice A3 n3 c3,.bool t3,.slice B3 m3 d3] by rw [←bB]; exact (BX.at rfl))
   obtain ⟨fN,fO,fP,fQ,fR,fS,fT,fU⟩:=fM.out.q8 0 1 2 3 4 5 6 7
   have aC:=hJ (bt aM.out cH.out)
   have aZ:=hJ (PF.new bL.out aC.out)
   have bA:=hJ (PF.new bN.out aC.out)
   go_wp2_with fail
   clear hix bB fN fO fP fQ fR fS fT fU
   refine (pwhole_any p2 q2 p3 q3 s2 A2 n2 c2 t2 B2 m2 d2 s3 A3 n3 c3 t3 B3 m3 d3 x43 aZ.out bA.out ⟨fr3 bM.out,fr3 bO.out⟩).mono ?_
   rw [decide_eq_false aJ.out]
   rintro e w52 ⟨rfl,hb⟩
   have cI:=hJ hb
   clear hb
   have aH:=hJ (bt cH.out cI.out)
   have aA:=hJ (BX.new aB.out aH.out)
   have fV:=aA.out.frozen 2
   have fW:=aA.out.cell 2 rfl
   have fX:=aA.out.frozen 3
   have fY:=aA.out.cell 3 rfl
   obtain ⟨x53,cJ⟩:=nmz (World.setCell (World.setCell w52 ⟨w.heap.size+1,2,none⟩ (.int .i64 (pwX p2 q2 p3 q3))) ⟨w.heap.size+1,3,none⟩ (.int .i64 (pwY p2 q2 p3 q3)))
   have cK:=hJ (show sto w52 (w.heap.size+1) 2 [.int .i64 (pwX p2 q2 p3 q3),.int .i64 (pwY p2 q2 p3 q3)]=x53 from cJ)
   have aF:=hJ (show BX 120 x53 (w.heap.size+1) #[.int .i64 (pwX p0 q0 p1 q1),.int .i64 (pwY p0 q0 p1 q1),.int .i64 (pwX p2 q2 p3 q3),.int .i64 (pwY p2 q2 p3 q3),.int .i64 0,.int .i64 0] by rw [←cK.out]; exact BX.put aA.out _ _)
   obtain ⟨fZ,gA,gB,gC⟩:=aF.out.q4 0 1 2 3
   have gD:=aF.out.cell 4 rfl
   have gE:=aF.out.cell 5 rfl
   have gF:=aF.out.frozen 0
   have gG:=aF.out.cell 0 rfl
   have gH:=aF.out.frozen 1
   have gI:=aF.out.cell 1 rfl
   have gJ:=aF.out.frozen 2
   have gK:=aF.out.cell 2 rfl
   have gL:=aF.out.frozen 3
   have gM:=aF.out.cell 3 rfl
   have gN:=aF.out.frozen 4
   have gO:=aF.out.cell 4 rfl
   have gP:=aF.out.frozen 5
   have gQ:=aF.out.cell 5 rfl
   obtain ⟨x60,cL⟩:=nmz (World.setCell (World.setCell (World.setCell (World.setCell (World.setCell (World.setCell x53 ⟨w.heap.size+1,0,none⟩ (.int .i64 (pwX p0 q0 p1 q1))) ⟨w.heap.size+1,1,none⟩ (.int .i64 (pwY p0 q0 p1 q1))) ⟨w.heap.size+1,2,none⟩ (.int .i64 (pwX p2 q2 p3 q3))) ⟨w.heap.size+1,3,none⟩ (.int .i64 (pwY p2 q2 p3 q3))) ⟨w.heap.size+1,4,none⟩ (.int .i64 0)) ⟨w.heap.size+1,5,none⟩ (.int .i64 0))
   have cM:=hJ (show sto x53 (w.heap.size+1) 0 [.int .i64 (pwX p0 q0 p1 q1),.int .i64 (pwY p0 q0 p1 q1),.int .i64 (pwX p2 q2 p3 q3),.int .i64 (pwY p2 q2 p3 q3),.int .i64 0,.int .i64 0]=x60 from cL)
   have gR:=hJ (show BX 120 x60 (w.heap.size+1) #[.int .i64 (pwX p0 q0 p1 q1),.int .i64 (pwY p0 q0 p1 q1),.int .i64 (pwX p2 q2 p3 q3),.int .i64 (pwY p2 q2 p3 q3),.int .i64 0,.int .i64 0] by rw [←cM.out]; exact BX.put aF.out _ _)
   have aI:=hJ (show Below w.heap.size w x53 by rw [←cK.out]; exact below_sto (bt aC.out cI.out) aK.out _ _)
   have aO:=hJ (show Below w.heap.size w x60 by rw [←cM.out]; exact below_sto aI.out aK.out _ _)
   go_wp2
   clear fV fW fX fY cJ fZ gA gB gC gD gE gF gG gH gI gJ gK gL gM gN gO gP gQ cL
   exact bodyPost_ret (results_cell1 rfl _ _ _ _ _ _ _ rfl gR.out Tryz.underlying120 rfl G3_size) rfl ⟨(pwX p0 q0 p1 q1),(pwY p0 q0 p1 q1),(pwX p2 q2 p3 q3),(pwY p2 q2 p3 q3),0,0,by rw [decide_eq_false (show ¬(pwE p0 q0 p1 q1=0∧pwE p2 q2 p3 q3=0∧pwE p4 q4 p5 q5=0) from fun h=>aJ.out h.2.1)] <;> rfl,fun h=>absurd h.2.1 aJ.out,aO.out⟩
  ·(try rw [show ((2:Nat):Int)=2 from rfl])
   have aT:=hJ aB.out.lt
   have hix:∀ wx,(Instr.index 123 (.agg #[.bool s0,.slice A0 n0 c0,.bool t0,.slice B0 m0 d0,.bool s1,.slice A1 n1 c1,.bool t1,.slice B1 m1 d1,.bool s2,.slice A2 n2 c2,.bool t2,.slice B2 m2 d2,.bool s3,.slice A3 n3 c3,.bool t3,.slice B3 m3 d3,.bool s4,.slice A4 n4 c4,.bool t4,.slice B4 m4 d4,.bool s5,.slice A5 n5 c5,.bool t5,.slice B5 m5 d5]) (.int .i64 2)).run Tryz.prog wx=.ok (.agg #[.bool s4,.slice A4 n4 c4,.bool t4,.slice B4 m4 d4,.bool s5,.slice A5 n5 c5,.bool t5,.slice B5 m5 d5]) wx:=fun wx=>hx3_2 wx
   by_cases hw:pwE p4 q4 p5 q5=0
   ·have aS:=hJ hw
    clear hw
    obtain ⟨x61,bC⟩:=nmz (wl2.alloc (.cells #[.bool s4,.slice A4 n4 c4,.bool t4,.slice B4 m4 d4,.bool s5,.slice A5 n5 c5,.bool t5,.slice B5 m5 d5] 37))
    have cN:=hJ (show Below wl2.heap.size wl2 x61 by rw [←bC]; exact ((Below.refl _ _).alloc (Nat.le_refl _) _))
    have gS:=hJ (show BX 37 x61 wl2.heap.size #[.bool s4,.slice A4 n4 c4,.bool t4,.slice B4 m4 d4,.bool s5,.slice A5 n5 c5,.bool t5,.slice B5 m5 d5] by rw [←bC]; exact (BX.at rfl))
    obtain ⟨gT,gU,gV,gW,gX,gY,gZ,hA⟩:=gS.out.q8 0 1 2 3 4 5 6 7
    have aC:=hJ (bt aM.out cN.out)
    have bD:=hJ (PF.new bP.out aC.out)
    have bE:=hJ (PF.new bR.out aC.out)
    go_wp2_with fail
    clear hix bC gT gU gV gW gX gY gZ hA
    refine (pwhole_any p4 q4 p5 q5 s4 A4 n4 c4 t4 B4 m4 d4 s5 A5 n5 c5 t5 B5 m5 d5 x61 bD.out bE.out ⟨fr3 bQ.out,fr3 bS.out⟩).mono ?_
    rw [decide_eq_true aS.out]
    rintro e w70 ⟨rfl,hb⟩
    have cO:=hJ hb
    clear hb
    have aH:=hJ (bt cN.out cO.out)
    have aA:=hJ (BX.new aB.out aH.out)
    have hB:=aA.out.frozen 4
    have hC:=aA.out.cell 4 rfl
    have hD:=aA.out.frozen 5
    have hE:=aA.out.cell 5 rfl
    obtain ⟨x71,cP⟩:=nmz (World.setCell (World.setCell w70 ⟨w.heap.size+1,4,none⟩ (.int .i64 (pwX p4 q4 p5 q5))) ⟨w.heap.size+1,5,none⟩ (.int .i64 (pwY p4 q4 p5 q5)))
    have cQ:=hJ (show sto w70 (w.heap.size+1) 4 [.int .i64 (pwX p4 q4 p5 q5),.int .i64 (pwY p4 q4 p5 q5)]=x71 from cP)
    have hF:=hJ (show BX 120 x71 (w.heap.size+1) #[.int .i64 (pwX p0 q0 p1 q1),.int .i64 (pwY p0 q0 p1 q1),.int .i64 (pwX p2 q2 p3 q3),.int .i64 (pwY p2 q2 p3 q3),.int .i64 (pwX p4 q4 p5 q5),.int .i64 (pwY p4 q4 p5 q5)] by rw [←cQ.out]; exact BX.put aA.out _ _)
    have aI:=hJ (show Below w.heap.size w x71 by rw [←cQ.out]; exact below_sto (bt aC.out cO.out) aK.out _ _)
    go_wp2_with fail
    clear hB hC hD hE cP
    go_roundw
    case rel=>exact ⟨3,by go_num,aI.out,.inr (.inr (.inr (⟨rfl,rfl,hF,aL,aN,aS⟩)))⟩
    case measure=>simp [intOf] <;> omega
   have aJ:=hJ hw
   clear hw
   obtain ⟨x72,bF⟩:=nmz (wl2.alloc (.cells #[.bool s4,.slice A4 n4 c4,.bool t4,.slice B4 m4 d4,.bool s5,.slice A5 n5 c5,.bool t5,.slice B5 m5 d5] 37))
   have cR:=hJ (show Below wl2.heap.size wl2 x72 by rw [←bF]; exact ((Below.refl _ _).alloc (Nat.le_refl _) _))
   have hG:=hJ (show BX 37 x72 wl2.heap.size #[.bool s4,.slice A4 n4 c4,.bool t4,.slice B4 m4 d4,.bool s5,.slice A5 n5 c5,.bool t5,.slice B5 m5 d5] by rw [←bF]; exact (BX.at rfl))
   obtain ⟨hH,hI,hK,hL,hM,hN,hO,hP⟩:=hG.out.q8 0 1 2 3 4 5 6 7
   have aC:=hJ (bt aM.out cR.out)
   have bD:=hJ (PF.new bP.out aC.out)
   have bE:=hJ (PF.new bR.out aC.out)
   go_wp2_with fail
   clear hix bF hH hI hK hL hM hN hO hP
   refine (pwhole_any p4 q4 p5 q5 s4 A4 n4 c4 t4 B4 m4 d4 s5 A5 n5 c5 t5 B5 m5 d5 x72 bD.out bE.out ⟨fr3 bQ.out,fr3 bS.out⟩).mono ?_
   rw [decide_eq_false aJ.out]
   rintro e w81 ⟨rfl,hb⟩
   have cS:=hJ hb
   clear hb
   have aH:=hJ (bt cR.out cS.out)
   have aA:=hJ (BX.new aB.out aH.out)
   have hQ:=aA.out.frozen 4
   have hR:=aA.out.cell 4 rfl
   have hS:=aA.out.frozen 5
   have hT:=aA.out.cell 5 rfl
   obtain ⟨x82,cT⟩:=nmz (World.setCell (World.setCell w81 ⟨w.heap.size+1,4,none⟩ (.int .i64 (pwX p4 q4 p5 q5))) ⟨w.heap.size+1,5,none⟩ (.int .i64 (pwY p4 q4 p5 q5)))
   have cU:=hJ (show sto w81 (w.heap.size+1) 4 [.int .i64 (pwX p4 q4 p5 q5),.int .i64 (pwY p4 q4 p5 q5)]=x82 from cT)
   have aG:=hJ (show BX 120 x82 (w.heap.size+1) #[.int .i64 (pwX p0 q0 p1 q1),.int .i64 (pwY p0 q0 p1 q1),.int .i64 (pwX p2 q2 p3 q3),.int .i64 (pwY p2 q2 p3 q3),.int .i64 (pwX p4 q4 p5 q5),.int .i64 (pwY p4 q4 p5 q5)] by rw [←cU.out]; exact BX.put aA.out _ _)
   obtain ⟨hU,hV,hW,hX⟩:=aG.out.q4 0 1 2 3
   have hY:=aG.out.cell 4 rfl
   have hZ:=aG.out.cell 5 rfl
   have iA:=aG.out.frozen 0
   have iB:=aG.out.cell 0 rfl
   have iC:=aG.out.frozen 1
   have iD:=aG.out.cell 1 rfl
   have iE:=aG.out.frozen 2
   have iF:=aG.out.cell 2 rfl
   have iG:=aG.out.frozen 3
   have iH:=aG.out.cell 3 rfl
   have iI:=aG.out.frozen 4
   have iJ:=aG.out.cell 4 rfl
   have iK:=aG.out.frozen 5
   have iL:=aG.out.cell 5 rfl
   obtain ⟨x89,cV⟩:=nmz (World.setCell (World.setCell (World.setCell (World.setCell (World.setCell (World.setCell x82 ⟨w.heap.size+1,0,none⟩ (.int .i64 (pwX p0 q0 p1 q1))) ⟨w.heap.size+1,1,none⟩ (.int .i64 (pwY p0 q0 p1 q1))) ⟨w.heap.size+1,2,none⟩ (.int .i64 (pwX p2 q2 p3 q3))) ⟨w.heap.size+1,3,none⟩ (.int .i64 (pwY p2 q2 p3 q3))) ⟨w.heap.size+1,4,none⟩ (.int .i64 (pwX p4 q4 p5 q5))) ⟨w.heap.size+1,5,none⟩ (.int .i64 (pwY p4 q4 p5 q5)))
   have cW:=hJ (show sto x82 (w.heap.size+1) 0 [.int .i64 (pwX p0 q0 p1 q1),.int .i64 (pwY p0 q0 p1 q1),.int .i64 (pwX p2 q2 p3 q3),.int .i64 (pwY p2 q2 p3 q3),.int .i64 (pwX p4 q4 p5 q5),.int .i64 (pwY p4 q4 p5 q5)]=x89 from cV)
   have iM:=hJ (show BX 120 x89 (w.heap.size+1) #[.int .i64 (pwX p0 q0 p1 q1),.int .i64 (pwY p0 q0 p1 q1),.int .i64 (pwX p2 q2 p3 q3),.int .i64 (pwY p2 q2 p3 q3),.int .i64 (pwX p4 q4 p5 q5),.int .i64 (pwY p4 q4 p5 q5)] by rw [←cW.out]; exact BX.put aG.out _ _)
   have aI:=hJ (show Below w.heap.size w x82 by rw [←cU.out]; exact below_sto (bt aC.out cS.out) aK.out _ _)
   have aO:=hJ (show Below w.heap.size w x89 by rw [←cW.out]; exact below_sto aI.out aK.out _ _)
   go_wp2
   clear hQ hR hS hT cT hU hV hW hX hY hZ iA iB iC iD iE iF iG iH iI iJ iK iL cV
   exact bodyPost_ret (results_cell1 rfl _ _ _ _ _ _ _ rfl iM.out Tryz.underlying120 rfl G3_size) rfl ⟨(pwX p0 q0 p1 q1),(pwY p0 q0 p1 q1),(pwX p2 q2 p3 q3),(pwY p2 q2 p3 q3),(pwX p4 q4 p5 q5),(pwY p4 q4 p5 q5),by rw [decide_eq_false (show ¬(pwE p0 q0 p1 q1=0∧pwE p2 q2 p3 q3=0∧pwE p4 q4 p5 q5=0) from fun h=>aJ.out h.2.2)] <;> rfl,fun h=>absurd h.2.2 aJ.out,aO.out⟩
  ·(try rw [show ((3:Nat):Int)=3 from rfl])
   have aT:=hJ aB.out.lt
   obtain ⟨iN,iO,iP,iQ⟩:=aB.out.q4 0 1 2 3
   have iR:=aB.out.cell 4 rfl
   have iS:=aB.out.cell 5 rfl
   have iT:=aB.out.frozen 0
   have iU:=aB.out.cell 0 rfl
   have iV:=aB.out.frozen 1
   have iW:=aB.out.cell 1 rfl
   have iX:=aB.out.frozen 2
   have iY:=aB.out.cell 2 rfl
   have iZ:=aB.out.frozen 3
   have jA:=aB.out.cell 3 rfl
   have jB:=aB.out.frozen 4
   have jC:=aB.out.cell 4 rfl
   have jD:=aB.out.frozen 5
   have jE:=aB.out.cell 5 rfl
   obtain ⟨x96,cX⟩:=nmz (World.setCell (World.setCell (World.setCell (World.setCell (World.setCell (World.setCell wl2 ⟨w.heap.size+1,0,none⟩ (.int .i64 (pwX p0 q0 p1 q1))) ⟨w.heap.size+1,1,none⟩ (.int .i64 (pwY p0 q0 p1 q1))) ⟨w.heap.size+1,2,none⟩ (.int .i64 (pwX p2 q2 p3 q3))) ⟨w.heap.size+1,3,none⟩ (.int .i64 (pwY p2 q2 p3 q3))) ⟨w.heap.size+1,4,none⟩ (.int .i64 (pwX p4 q4 p5 q5))) ⟨w.heap.size+1,5,none⟩ (.int .i64 (pwY p4 q4 p5 q5)))
   have cY:=hJ (show sto wl2 (w.heap.size+1) 0 [.int .i64 (pwX p0 q0 p1 q1),.int .i64 (pwY p0 q0 p1 q1),.int .i64 (pwX p2 q2 p3 q3),.int .i64 (pwY p2 q2 p3 q3),.int .i64 (pwX p4 q4 p5 q5),.int .i64 (pwY p4 q4 p5 q5)]=x96 from cX)
   have jF:=hJ (show BX 120 x96 (w.heap.size+1) #[.int .i64 (pwX p0 q0 p1 q1),.int .i64 (pwY p0 q0 p1 q1),.int .i64 (pwX p2 q2 p3 q3),.int .i64 (pwY p2 q2 p3 q3),.int .i64 (pwX p4 q4 p5 q5),.int .i64 (pwY p4 q4 p5 q5)] by rw [←cY.out]; exact BX.put aB.out _ _)
   have aC:=hJ (show Below w.heap.size w x96 by rw [←cY.out]; exact below_sto aM.out aK.out _ _)
   go_wp2
   clear iN iO iP iQ iR iS iT iU iV iW iX iY iZ jA jB jC jD jE cX
   exact bodyPost_ret (results_cell1 rfl _ _ _ _ _ _ _ rfl jF.out Tryz.underlying120 rfl G3_size) rfl ⟨(pwX p0 q0 p1 q1),(pwY p0 q0 p1 q1),(pwX p2 q2 p3 q3),(pwY p2 q2 p3 q3),(pwX p4 q4 p5 q5),(pwY p4 q4 p5 q5),by rw [decide_eq_true (show pwE p0 q0 p1 q1=0∧pwE p2 q2 p3 q3=0∧pwE p4 q4 p5 q5=0 from ⟨aL.out,aN.out,aS.out⟩)] <;> rfl,fun _=>⟨rfl,rfl,rfl,rfl,rfl,rfl⟩,aC.out⟩
theorem side_any (p0 q0 p1 q1 p2 q2 p3 q3 p4 q4 p5 q5 P0 Q0 C0 P1 Q1 C1 P2 Q2 C2 P3 Q3 C3 P4 Q4 C4 P5 Q5 C5 P6 Q6 C6:Int) (s0:Bool) (A0:Option Addr) (n0 c0:Nat) (t0:Bool) (B0:Option Addr) (m0 d0:Nat) (s1:Bool) (A1:Option Addr) (n1 c1:Nat) (t1:Bool) (B1:Option Addr) (m1 d1:Nat) (s2:Bool) (A2:Option Addr) (n2 c2:Nat) (t2:Bool) (B2:Option Addr) (m2 d2:Nat) (s3:Bool) (A3:Option Addr) (n3 c3:Nat) (t3:Bool) (B3:Option Addr) (m3 d3:Nat) (s4:Bool) (A4:Option Addr) (n4 c4:Nat) (t4:Bool) (B4:Option Addr) (m4 d4:Nat) (s5:Bool) (A5:Option Addr) (n5 c5:Nat) (t5:Bool) (B5:Option Addr) (m5 d5:Nat) (w:World) (h0:PF w s0 A0 n0 c0 t0 B0 m0 d0 p0 q0) (h1:PF w s1 A1 n1 c1 t1 B1 m1 d1 p1 q1) (h2:PF w s2 A2 n2 c2 t2 B2 m2 d2 p2 q2) (h3:PF w s3 A3 n3 c3 t3 B3 m3 d3 p3 q3) (h4:PF w s4 A4 n4 c4 t4 B4 m4 d4 p4 q4) (h5:PF w s5 A5 n5 c5 t5 B5 m5 d5 p5 q5) (f0:Fr p0 q0) (f1:Fr p1 q1) (f2:Fr p2 q2) (f3:Fr p3 q3) (f4:Fr p4 q4) (f5:Fr p5 q5) (e0:adP p2 q2 (-p0) q0=P0∧adQ p2 q2 (-p0) q0=Q0∧adC p2 q2 (-p0) q0=C0) (e1:adP p5 q5 (-p1) q1=P1∧adQ p5 q5 (-p1) q1=Q1∧adC p5 q5 (-p1) q1=C1) (e2:muP P0 Q0 P1 Q1=P2∧muQ P0 Q0 P1 Q1=Q2∧muC P0 Q0 P1 Q1=C2) (e3:adP p3 q3 (-p1) q1=P3∧adQ p3 q3 (-p1) q1=Q3∧adC p3 q3 (-p1) q1=C3) (e4:adP p4 q4 (-p0) q0=P4∧adQ p4 q4 (-p0) q0=Q4∧adC p4 q4 (-p0) q0=C4) (e5:muP P3 Q3 P4 Q4=P5∧muQ P3 Q3 P4 Q4=Q5∧muC P3 Q3 P4 Q4=C5) (e6:adP P2 Q2 (-P5) Q5=P6∧adQ P2 Q2 (-P5) Q5=Q6∧adC P2 Q2 (-P5) Q5=C6) :
  Calls Tryz.prog 39 #[.agg #[.bool s0,.slice A0 n0 c0,.bool t0,.slice B0 m0 d0,.bool s1,.slice A1 n1 c1,.bool t1,.slice B1 m1 d1],.agg #[.bool s2,.slice A2 n2 c2,.bool t2,.slice B2 m2 d2,.bool s3,.slice A3 n3 c3,.bool t3,.slice B3 m3 d3],.agg #[.bool s4,.slice A4 n4 c4,.bool t4,.slice B4 m4 d4,.bool s5,.slice A5 n5 c5,.bool t5,.slice B5 m5 d5]] w fun e w'=>e=.returned (.tuple #[.int .i64 (siV p0 q0 p1 q1 p2 q2 p3 q3 p4 q4 p5 q5 P6 (feV [C0,C1,C2,C3,C4,C5,C6])),.int .i64 (siC p0 q0 p1 q1 p2 q2 p3 q3 p4 q4 p5 q5 (feV [C0,C1,C2,C3,C4,C5,C6]))])∧Below w.heap.size w w':=by
 have aW:=hJ e0
 have aX:=hJ e1
 have aY:=hJ e2
 have aZ:=hJ e3
 have bA:=hJ e4
 have bB:=hJ e5
 have bC:=hJ e6
 clear e0 e1 e2 e3 e4 e5 e6
 have bG:=hJ h0
 have aG:=hJ f0
 have bH:=hJ h1
 have aH:=hJ f1
 have bJ:=hJ h2
 have aK:=hJ f2
 have bK:=hJ h3
 have aL:=hJ f3
 have bL:=hJ h4
 have aM:=hJ f4
 have bM:=hJ h5
 have aN:=hJ f5
 clear h0 f0 h1 f1 h2 f2 h3 f3 h4 f4 h5 f5
 have bX:=hJ (show Fr P0 Q0 by rw [←aW.out.1,←aW.out.2.1]; exact fr_ad aK.out (fr_neg aG.out))
 have bY:=hJ (show Fr P1 Q1 by rw [←aX.out.1,←aX.out.2.1]; exact fr_ad aN.out (fr_neg aH.out))
 have bZ:=hJ (show Fr P2 Q2 by rw [←aY.out.1,←aY.out.2.1]; exact fr_mu bX.out bY.out)
 have cA:=hJ (show Fr P3 Q3 by rw [←aZ.out.1,←aZ.out.2.1]; exact fr_ad aL.out (fr_neg aH.out))
 have cB:=hJ (show Fr P4 Q4 by rw [←bA.out.1,←bA.out.2.1]; exact fr_ad aM.out (fr_neg aG.out))
 have cC:=hJ (show Fr P5 Q5 by rw [←bB.out.1,←bB.out.2.1]; exact fr_mu cA.out cB.out)
 have cD:=hJ (show Fr P6 Q6 by rw [←bC.out.1,←bC.out.2.1]; exact fr_ad bZ.out (fr_neg cC.out))
 obtain ⟨CC,hcc⟩:=nmz ((feV [C0,C1,C2,C3,C4,C5,C6]))
 obtain ⟨PP,hpp⟩:=nmz (feP (feV [C0,C1,C2,C3,C4,C5,C6]) P6)
 obtain ⟨QQ,hqq⟩:=nmz (feQ (feV [C0,C1,C2,C3,C4,C5,C6]) Q6)
 have cE:=hJ (show Fr PP QQ by
  rw [←hpp,←hqq,feP,feQ]
  by_cases h:(feV [C0,C1,C2,C3,C4,C5,C6])=0
  ·rw [if_pos h,if_pos h]; exact cD.out
  rw [if_neg h,if_neg h]; exact fr_zero)
 have bN:=hJ hcc
 have bO:=hJ hpp
 have cF:=hJ hqq
 clear hcc hpp hqq
 by_cases hw:pwE p0 q0 p1 q1=0∧pwE p2 q2 p3 q3=0∧pwE p4 q4 p5 q5=0
 ·have aA:=hJ hw
  clear hw
  obtain ⟨x1,aI⟩:=nmz (((w.alloc (.cells #[.bool s0,.slice A0 n0 c0,.bool t0,.slice B0 m0 d0,.bool s1,.slice A1 n1 c1,.bool t1,.slice B1 m1 d1] 37)).alloc (.cells #[.bool s2,.slice A2 n2 c2,.bool t2,.slice B2 m2 d2,.bool s3,.slice A3 n3 c3,.bool t3,.slice B3 m3 d3] 37)).alloc (.cells #[.bool s4,.slice A4 n4 c4,.bool t4,.slice B4 m4 d4,.bool s5,.slice A5 n5 c5,.bool t5,.slice B5 m5 d5] 37))
  have aC:=hJ (show Below w.heap.size w x1 by rw [←aI]; exact ((((Below.refl _ _).alloc (Nat.le_refl _) _).alloc (by simp only [World.size_alloc]; omega) _).alloc (by simp only [World.size_alloc]; omega) _))
  have cG:=hJ (show BX 37 x1 w.heap.size #[.bool s0,.slice A0 n0 c0,.bool t0,.slice B0 m0 d0,.bool s1,.slice A1 n1 c1,.bool t1,.slice B1 m1 d1] by rw [←aI]; exact (((BX.at rfl).alloc _).alloc _))
  have cH:=hJ (show BX 37 x1 (w.heap.size+1) #[.bool s2,.slice A2 n2 c2,.bool t2,.slice B2 m2 d2,.bool s3,.slice A3 n3 c3,.bool t3,.slice B3 m3 d3] by rw [←aI]; exact ((BX.at (by simp only [World.size_alloc])).alloc _))
  have cI:=hJ (show BX 37 x1 (w.heap.size+2) #[.bool s4,.slice A4 n4 c4,.bool t4,.slice B4 m4 d4,.bool s5,.slice A5 n5 c5,.bool t5,.slice B5 m5 d5] by rw [←aI]; exact (BX.at (by simp only [World.size_alloc])))
  obtain ⟨cJ,cK,cL,cM,cN,cO,cP,cQ⟩:=cG.out.q8 0 1 2 3 4 5 6 7
  obtain ⟨cR,cS,cT,cU,cV,cW,cX,cY⟩:=cH.out.q8 0 1 2 3 4 5 6 7
  obtain ⟨cZ,dA,dB,dD,dE,dF,dG,dH⟩:=cI.out.q8 0 1 2 3 4 5 6 7
  have aO:=hJ (PF.new bG.out aC.out)
  have aR:=hJ (PF.new bH.out aC.out)
  have aS:=hJ (PF.new bJ.out aC.out)
  have aT:=hJ (PF.new bK.out aC.out)
  have aU:=hJ (PF.new bL.out aC.out)
  have aV:=hJ (PF.new bM.out aC.out)
  go_enter Tryz.func39,Tryz.ntmps39
  go_wp2_with fail
  clear aI cJ cK cL cM cN cO cP cQ cR cS cT cU cV cW cX cY cZ dA dB dD dE dF dG dH
  refine (og3_any p0 q0 p1 q1 p2 q2 p3 q3 p4 q4 p5 q5 s0 A0 n0 c0 t0 B0 m0 d0 s1 A1 n1 c1 t1 B1 m1 d1 s2 A2 n2 c2 t2 B2 m2 d2 s3 A3 n3 c3 t3 B3 m3 d3 s4 A4 n4 c4 t4 B4 m4 d4 s5 A5 n5 c5 t5 B5 m5 d5 x1 aO.out aR.out aS.out aT.out aU.out aV.out aG.out aH.out aK.out aL.out aM.out aN.out).mono ?_
  rw [decide_eq_true aA.out]
  rintro e w26 ⟨l0,l1,l2,l3,l4,l5,rfl,hl,hb⟩
  have dI:=hJ hb
  clear hb
  have bP:=hJ hl
  clear hl
  obtain ⟨x27,bD⟩:=nmz (w26.alloc (.cells #[.int .i64 l0,.int .i64 l1,.int .i64 l2,.int .i64 l3,.int .i64 l4,.int .i64 l5] 120))
  have dJ:=hJ (show Below w26.heap.size w26 x27 by rw [←bD]; exact ((Below.refl _ _).alloc (Nat.le_refl _) _))
  have bE:=hJ (show BX 120 x27 w26.heap.size #[.int .i64 l0,.int .i64 l1,.int .i64 l2,.int .i64 l3,.int .i64 l4,.int .i64 l5] by rw [←bD]; exact (BX.at rfl))
  have aF:=hJ (bP.out aA.out)
  obtain rfl:p0=l0:=((aF.out.1).trans (pw_zero aA.out.1).2.1.1).symm
  obtain rfl:p1=l1:=((aF.out.2.1).trans (pw_zero aA.out.1).2.1.2).symm
  obtain rfl:p2=l2:=((aF.out.2.2.1).trans (pw_zero aA.out.2.1).2.1.1).symm
  obtain rfl:p3=l3:=((aF.out.2.2.2.1).trans (pw_zero aA.out.2.1).2.1.2).symm
  obtain rfl:p4=l4:=((aF.out.2.2.2.2.1).trans (pw_zero aA.out.2.2).2.1.1).symm
  obtain rfl:p5=l5:=((aF.out.2.2.2.2.2).trans (pw_zero aA.out.2.2).2.1.2).symm
  have dK:=hJ (show G3 p0 p1 p2 p3 p4 p5 from g3_ok (vd_nk (pw_zero aA.out.1).2.2) (vd_nk (pw_zero aA.out.2.1).2.2) (vd_nk (pw_zero aA.out.2.2).2.2))
  obtain ⟨dL,dM⟩:=bE.out.c2 0 1 rfl rfl
  obtain ⟨dN,dO⟩:=bE.out.c2 2 3 rfl rfl
  obtain ⟨dP,dQ⟩:=bE.out.c2 4 5 rfl rfl
  go_wp2_with fail
  clear bD dL dM dN dO dP dQ
  refine (gridside_any p0 p1 p2 p3 p4 p5 x27 dK.out).mono ?_
  rintro e w34 ⟨rfl,hb⟩
  have dR:=hJ hb
  clear hb
  have dS:=hJ (bt (bt (bt aC.out dI.out) dJ.out) dR.out)
  go_wp2
  go_ret2
  exact ⟨by rw [siV,siC,if_pos aA.out,if_pos aA.out] <;> rfl,dS.out⟩
 ·have aA:=hJ hw
  clear hw
  obtain ⟨x35,aJ⟩:=nmz (((w.alloc (.cells #[.bool s0,.slice A0 n0 c0,.bool t0,.slice B0 m0 d0,.bool s1,.slice A1 n1 c1,.bool t1,.slice B1 m1 d1] 37)).alloc (.cells #[.bool s2,.slice A2 n2 c2,.bool t2,.slice B2 m2 d2,.bool s3,.slice A3 n3 c3,.bool t3,.slice B3 m3 d3] 37)).alloc (.cells #[.bool s4,.slice A4 n4 c4,.bool t4,.slice B4 m4 d4,.bool s5,.slice A5 n5 c5,.bool t5,.slice B5 m5 d5] 37))
  have aD:=hJ (show Below w.heap.size w x35 by rw [←aJ]; exact ((((Below.refl _ _).alloc (Nat.le_refl _) _).alloc (by simp only [World.size_alloc]; omega) _).alloc (by simp only [World.size_alloc]; omega) _))
  have bQ:=hJ (show BX 37 x35 w.heap.size #[.bool s0,.slice A0 n0 c0,.bool t0,.slice B0 m0 d0,.bool s1,.slice A1 n1 c1,.bool t1,.slice B1 m1 d1] by rw [←aJ]; exact (((BX.at rfl).alloc _).alloc _))
  have bR:=hJ (show BX 37 x35 (w.heap.size+1) #[.bool s2,.slice A2 n2 c2,.bool t2,.slice B2 m2 d2,.bool s3,.slice A3 n3 c3,.bool t3,.slice B3 m3 d3] by rw [←aJ]; exact ((BX.at (by simp only [World.size_alloc])).alloc _))
  have bS:=hJ (show BX 37 x35 (w.heap.size+2) #[.bool s4,.slice A4 n4 c4,.bool t4,.slice B4 m4 d4,.bool s5,.slice A5 n5 c5,.bool t5,.slice B5 m5 d5] by rw [←aJ]; exact (BX.at (by simp only [World.size_alloc])))
  obtain ⟨dT,dU,dW,dX,dY,dZ,eA,eB⟩:=bQ.out.q8 0 1 2 3 4 5 6 7
  obtain ⟨eC,eD,eE,eF,eG,eH,eI,eJ⟩:=bR.out.q8 0 1 2 3 4 5 6 7
  obtain ⟨eK,eL,eM,eN,eO,eP,eQ,eR⟩:=bS.out.q8 0 1 2 3 4 5 6 7
  have aO:=hJ (PF.new bG.out aD.out)
  have aR:=hJ (PF.new bH.out aD.out)
  have aS:=hJ (PF.new bJ.out aD.out)
  have aT:=hJ (PF.new bK.out aD.out)
  have aU:=hJ (PF.new bL.out aD.out)
  have aV:=hJ (PF.new bM.out aD.out)
  go_enter Tryz.func39,Tryz.ntmps39
  go_wp2_with fail
  clear aJ dT dU dW dX dY dZ eA eB eC eD eE eF eG eH eI eJ eK eL eM eN eO eP eQ eR
  refine (og3_any p0 q0 p1 q1 p2 q2 p3 q3 p4 q4 p5 q5 s0 A0 n0 c0 t0 B0 m0 d0 s1 A1 n1 c1 t1 B1 m1 d1 s2 A2 n2 c2 t2 B2 m2 d2 s3 A3 n3 c3 t3 B3 m3 d3 s4 A4 n4 c4 t4 B4 m4 d4 s5 A5 n5 c5 t5 B5 m5 d5 x35 aO.out aR.out aS.out aT.out aU.out aV.out aG.out aH.out aK.out aL.out aM.out aN.out).mono ?_
  rw [decide_eq_false aA.out]
  rintro e w60 ⟨l0,l1,l2,l3,l4,l5,rfl,hl,hb⟩
  have bT:=hJ hb
  clear hb
  have bP:=hJ hl
  clear hl
  obtain ⟨x61,bU⟩:=nmz (w60.alloc (.cells #[.int .i64 l0,.int .i64 l1,.int .i64 l2,.int .i64 l3,.int .i64 l4,.int .i64 l5] 120))
  have bV:=hJ (show Below w60.heap.size w60 x61 by rw [←bU]; exact ((Below.refl _ _).alloc (Nat.le_refl _) _))
  have aB:=hJ (bt bT.out bV.out)
  have eS:=hJ (BX.new bQ.out aB.out)
  obtain ⟨eT,eU,eV,eW,eX,eY,eZ,fA⟩:=eS.out.q8 0 1 2 3 4 5 6 7
  have fB:=hJ (BX.new bR.out aB.out)
  obtain ⟨fC,fD,fE,fF,fG,fH,fI,fJ⟩:=fB.out.q8 0 1 2 3 4 5 6 7
  have fK:=hJ (BX.new bS.out aB.out)
  obtain ⟨fL,fM,fN,fO,fP,fQ,fR,fS⟩:=fK.out.q8 0 1 2 3 4 5 6 7
  have fT:=hJ (PF.new aO.out aB.out)
  have fU:=hJ (PF.new aR.out aB.out)
  have fV:=hJ (PF.new aS.out aB.out)
  have fW:=hJ (PF.new aT.out aB.out)
  have fX:=hJ (PF.new aU.out aB.out)
  have fY:=hJ (PF.new aV.out aB.out)
  go_wp2_with fail
  clear bU eT eU eV eW eX eY eZ fA fC fD fE fF fG fH fI fJ fL fM fN fO fP fQ fR fS
  refine (area_any p0 q0 p1 q1 p2 q2 p3 q3 p4 q4 p5 q5 P0 Q0 C0 P1 Q1 C1 P2 Q2 C2 P3 Q3 C3 P4 Q4 C4 P5 Q5 C5 P6 Q6 C6 s0 A0 n0 c0 t0 B0 m0 d0 s1 A1 n1 c1 t1 B1 m1 d1 s2 A2 n2 c2 t2 B2 m2 d2 s3 A3 n3 c3 t3 B3 m3 d3 s4 A4 n4 c4 t4 B4 m4 d4 s5 A5 n5 c5 t5 B5 m5 d5 x61 fT.out fU.out fV.out fW.out fX.out fY.out aG.out aH.out aK.out aL.out aM.out aN.out aW.out aX.out aY.out aZ.out bA.out bB.out bC.out).mono ?_
  rw [bO.out,cF.out,bN.out]
  rintro e w86 ⟨s11,A11,n11,c11,t11,B11,m11,d11,rfl,hr11,hb⟩
  have fZ:=hJ hb
  have gA:=hJ hr11
  clear hb hr11
  obtain ⟨x87,bF⟩:=nmz (w86.alloc (.cells #[.bool s11,.slice A11 n11 c11,.bool t11,.slice B11 m11 d11] 35))
  have bW:=hJ (show Below w86.heap.size w86 x87 by rw [←bF]; exact ((Below.refl _ _).alloc (Nat.le_refl _) _))
  have gB:=hJ (show BX 35 x87 w86.heap.size #[.bool s11,.slice A11 n11 c11,.bool t11,.slice B11 m11 d11] by rw [←bF]; exact (BX.at rfl))
  obtain ⟨gC,gD,gE,gF⟩:=gB.out.c4 0 1 2 3 rfl rfl rfl rfl
  have gG:=hJ (PF.new gA.out bW.out)
  go_wp2_with fail
  clear bF gC gD gE gF
  refine (fsign_any PP QQ s11 t11 A11 B11 n11 c11 m11 d11 x87 gG.out cE.out.2.1).mono ?_
  rintro e w92 ⟨rfl,hb⟩
  have gH:=hJ hb
  clear hb
  have gI:=hJ (bt (bt (bt (bt (bt aD.out bT.out) bV.out) fZ.out) bW.out) gH.out)
  go_wp2
  go_ret2
  exact ⟨by rw [siV,siC,if_neg aA.out,if_neg aA.out,bO.out,bN.out] <;> rfl,gI.out⟩
theorem b2_m {x y:Int} {j k:Nat} (hx:x.natAbs < B2 j) (hy:y.natAbs < B2 k):(x*y).natAbs < B2 (j+k):=by
 rw [Int.natAbs_mul]
 unfold B2 at *
 rw [Nat.pow_add]
 exact Nat.mul_lt_mul'' hx hy
theorem b2_a {x y:Int} {k:Nat} (hx:x.natAbs < B2 k) (hy:y.natAbs < B2 k):(x+y).natAbs < B2 (k+1):=by
 unfold B2 at *
 rw [Nat.pow_succ]
 have:=Int.natAbs_add_le x y
 omega
theorem cmp_prod' (a b:Int):cmpI (a*b) 0=cmpI a 0*cmpI b 0:=by
 rcases Int.lt_trichotomy a 0 with h | rfl | h <;> rcases Int.lt_trichotomy b 0 with g | rfl | g
 ·have:=Int.mul_pos_of_neg_of_neg h g; unfold cmpI; rw [if_neg (by omega),if_pos this,if_pos h,if_pos g]; rfl
 ·simp [cmpI]
 ·have:=Int.mul_neg_of_neg_of_pos h g; unfold cmpI; rw [if_pos this,if_pos h,if_neg (by omega),if_pos g]; rfl
 ·simp [cmpI]
 ·simp [cmpI]
 ·simp [cmpI]
 ·have:=Int.mul_neg_of_pos_of_neg h g; unfold cmpI; rw [if_pos this,if_neg (by omega),if_pos h,if_pos g]; rfl
 ·simp [cmpI]
 ·have:=Int.mul_pos h g; unfold cmpI; rw [if_neg (by omega),if_pos this,if_neg (by omega),if_pos h,if_neg (by omega),if_pos g]; rfl
theorem sd_sub' (ax ay bx by' cx cy:Int):sdV ax ay bx by' cx cy=cmpI ((bx - ax)*(cy - ay) - (by' - ay)*(cx - ax)) 0:=by unfold sdV cmpI; split <;> split <;> (try split) <;> (try split) <;> omega
/-- A fraction in lowest terms, of a size, that is the quotient of two integers. -/
def Vl (k:Nat) (p q x d:Int):Prop:=Low p q∧p.natAbs < B2 k∧q.natAbs < B2 k∧d≠0∧p*d=x*q
theorem b2_lim {k:Nat} {x:Int} (h:x.natAbs < B2 k) (hk:k≤16384):x.natAbs < lim:=by
 rw [lim_two]
 exact B2.le h hk
theorem b2_div {k:Nat} {x g:Int} (h:x.natAbs < B2 k):(x / g).natAbs < B2 k:=Nat.lt_of_le_of_lt (Int.natAbs_ediv_le_natAbs x g) h
theorem vl_add {k l:Nat} {p q x d r s y f:Int} (h:Vl k p q x d) (h':Vl l r s y f) (hk:k+l+1≤16384):adC p q r s=0∧Vl (k+l+1) (adP p q r s) (adQ p q r s) (x*f+y*d) (d*f):=by
 obtain ⟨h1,h2,h3,h4,h5⟩:=h
 obtain ⟨g1,g2,g3,g4,g5⟩:=h'
 have b1:(p*(s / adG q s)).natAbs < B2 (k+l):=b2_m h2 (b2_div g3)
 have b2:(r*(q / adG q s)).natAbs < B2 (k+l):=by rw [Nat.add_comm]; exact b2_m g2 (b2_div h3)
 have b3:(adN p q r s).natAbs < B2 (k+l+1):=b2_a b1 b2
 have b4:(adD q s).natAbs < B2 (k+l):=b2_m (b2_div h3) g3
 have hK:adK p q r s:=⟨b2_lim b1 (by omega),b2_lim b2 (by omega),b2_lim b3 hk,b2_lim b4 (by omega)⟩
 obtain ⟨e1,e2⟩:=ad_low h1 g1 hK
 refine ⟨if_pos hK,e1,?_,?_,Int.mul_ne_zero h4 g4,?_⟩
 ·rw [adP,if_pos hK]; exact b2_div b3
 ·rw [adQ,if_pos hK]; exact b2_div (B2.le b4 (by omega))
 ·have hq:=h1.1
  have hs:=g1.1
  refine Int.eq_of_mul_eq_mul_right (Int.mul_ne_zero (show q≠0 by omega) (show s≠0 by omega)) ?_
  obtain ⟨P,hP⟩:=nmz (adP p q r s)
  obtain ⟨Q,hQ⟩:=nmz (adQ p q r s)
  rw [hP,hQ] at e2 ⊢
  clear b1 b2 b3 b4 hK e1 h1 g1 hP hQ h2 h3 g2 g3 h4 g4 hq hs hk
  grind
theorem vl_mul {k l:Nat} {p q x d r s y f:Int} (h:Vl k p q x d) (h':Vl l r s y f) (hk:k+l≤16384):muC p q r s=0∧Vl (k+l) (muP p q r s) (muQ p q r s) (x*y) (d*f):=by
 obtain ⟨h1,h2,h3,h4,h5⟩:=h
 obtain ⟨g1,g2,g3,g4,g5⟩:=h'
 have b1:(muN p q r s).natAbs < B2 (k+l):=b2_m (b2_div h2) (b2_div g2)
 have b2:(muD p q r s).natAbs < B2 (k+l):=b2_m (b2_div h3) (b2_div g3)
 have hK:muK p q r s:=⟨b2_lim b1 hk,b2_lim b2 hk⟩
 obtain ⟨e1,e2⟩:=mu_low h1 g1 hK
 refine ⟨if_pos hK,e1,?_,?_,Int.mul_ne_zero h4 g4,?_⟩
 ·rw [muP,if_pos hK]; exact b1
 ·rw [muQ,if_pos hK]; exact b2
 ·have hq:=h1.1
  have hs:=g1.1
  refine Int.eq_of_mul_eq_mul_right (Int.mul_ne_zero (show q≠0 by omega) (show s≠0 by omega)) ?_
  obtain ⟨P,hP⟩:=nmz (muP p q r s)
  obtain ⟨Q,hQ⟩:=nmz (muQ p q r s)
  rw [hP,hQ] at e2 ⊢
  clear b1 b2 hK e1 h1 g1 hP hQ h2 h3 g2 g3 h4 g4 hq hs hk
  grind
theorem vl_neg {k:Nat} {p q x d:Int} (h:Vl k p q x d):Vl k (-p) q (-x) d:=by
 obtain ⟨h1,h2,h3,h4,h5⟩:=h
 refine ⟨⟨h1.1,by rw [Int.natAbs_neg]; exact h1.2⟩,by rw [Int.natAbs_neg]; exact h2,h3,h4,?_⟩
 rw [Int.neg_mul,Int.neg_mul,h5]
/-- Twice the area of three points with numerators and denominators. -/
def arN (ax ay da bx by' db cx cy dc:Int):Int:=((bx*da - ax*db)*(cy*da - ay*dc) - (by'*da - ay*db)*(cx*da - ax*dc))
theorem cm_pos {c a:Int} (hc:0 < c):cmpI (c*a) 0=cmpI a 0:=by
 have h:=cmp_prod' c a
 rw [h,show cmpI c 0=1 from by unfold cmpI; rw [if_neg (by omega),if_pos hc],Int.one_mul]
theorem arN_int (a0 a1 b0 b1 c0 c1 da db dc:Int):arN (a0*da) (a1*da) da (b0*db) (b1*db) db (c0*dc) (c1*dc) dc=(da*da*db*dc)*((b0 - a0)*(c1 - a1) - (b1 - a1)*(c0 - a0)):=by unfold arN; grind
theorem ar_big {n0 n1 n3 n4 da db dc:Int}:n0*n1*(db*da*(dc*da)) + -(n3*n4)*(db*da*(dc*da))=(da*da*db*dc)*(n0*n1 - n3*n4):=by grind
theorem ar_den {da db dc:Int}:db*da*(dc*da)*(db*da*(dc*da))=(da*da*db*dc)*(da*da*db*dc):=by grind
theorem area_small {ax ay da bx by' db cx cy dc:Int} {p0 q0 p1 q1 p2 q2 p3 q3 p4 q4 p5 q5 P0 Q0 C0 P1 Q1 C1 P2 Q2 C2 P3 Q3 C3 P4 Q4 C4 P5 Q5 C5 P6 Q6 C6:Int} (hd:0 < da∧0 < db∧0 < dc) (v0:Vl 64 p0 q0 ax da) (v1:Vl 64 p1 q1 ay da) (v2:Vl 64 p2 q2 bx db) (v3:Vl 64 p3 q3 by' db) (v4:Vl 64 p4 q4 cx dc) (v5:Vl 64 p5 q5 cy dc) (e0:adP p2 q2 (-p0) q0=P0∧adQ p2 q2 (-p0) q0=Q0∧adC p2 q2 (-p0) q0=C0) (e1:adP p5 q5 (-p1) q1=P1∧adQ p5 q5 (-p1) q1=Q1∧adC p5 q5 (-p1) q1=C1) (e2:muP P0 Q0 P1 Q1=P2∧muQ P0 Q0 P1 Q1=Q2∧muC P0 Q0 P1 Q1=C2) (e3:adP p3 q3 (-p1) q1=P3∧adQ p3 q3 (-p1) q1=Q3∧adC p3 q3 (-p1) q1=C3) (e4:adP p4 q4 (-p0) q0=P4∧adQ p4 q4 (-p0) q0=Q4∧adC p4 q4 (-p0) q0=C4) (e5:muP P3 Q3 P4 Q4=P5∧muQ P3 Q3 P4 Q4=Q5∧muC P3 Q3 P4 Q4=C5) (e6:adP P2 Q2 (-P5) Q5=P6∧adQ P2 Q2 (-P5) Q5=Q6∧adC P2 Q2 (-P5) Q5=C6) :
  (feV [C0,C1,C2,C3,C4,C5,C6])=0∧Low P6 Q6∧P6*(da*da*db*dc)=arN ax ay da bx by' db cx cy dc*Q6∧P6.natAbs < B2 517∧Q6.natAbs < B2 517:=by
 have s0:=vl_add v2 (vl_neg v0) (by decide)
 have s1:=vl_add v5 (vl_neg v1) (by decide)
 rw [e0.1,e0.2.1,e0.2.2] at s0
 rw [e1.1,e1.2.1,e1.2.2] at s1
 have s2:=vl_mul s0.2 s1.2 (by decide)
 rw [e2.1,e2.2.1,e2.2.2] at s2
 have s3:=vl_add v3 (vl_neg v1) (by decide)
 have s4:=vl_add v4 (vl_neg v0) (by decide)
 rw [e3.1,e3.2.1,e3.2.2] at s3
 rw [e4.1,e4.2.1,e4.2.2] at s4
 have s5:=vl_mul s3.2 s4.2 (by decide)
 rw [e5.1,e5.2.1,e5.2.2] at s5
 have s6:=vl_add s2.2 (vl_neg s5.2) (by decide)
 rw [e6.1,e6.2.1,e6.2.2] at s6
 obtain ⟨c6,h1,h2,h3,h4,h5⟩:=s6
 refine ⟨?_,h1,?_,B2.le h2 (by decide),B2.le h3 (by decide)⟩
 ·rw [s0.1,s1.1,s2.1,s3.1,s4.1,s5.1,c6]; rfl
 ·have hD:0 < (da*da*db*dc):=Int.mul_pos (Int.mul_pos (Int.mul_pos hd.1 hd.1) hd.2.1) hd.2.2
  rw [ar_big,ar_den] at h5
  have hN:(bx*da + -ax*db)*(cy*da + -ay*dc) - (by'*da + -ay*db)*(cx*da + -ax*dc)=arN ax ay da bx by' db cx cy dc:=by
   unfold arN
   simp only [Int.neg_mul,←Int.sub_eq_add_neg]
  rw [hN] at h5
  refine Int.eq_of_mul_eq_mul_right (show (da*da*db*dc)≠0 by omega) ?_
  obtain ⟨D,hDD⟩:=nmz ((da*da*db*dc))
  obtain ⟨N,hNN⟩:=nmz (arN ax ay da bx by' db cx cy dc)
  rw [hDD,hNN] at h5 ⊢
  clear s0 s1 s2 s3 s4 s5 h1 h2 h3 h4 hN hD hDD hNN e0 e1 e2 e3 e4 e5 e6 v0 v1 v2 v3 v4 v5
  grind
theorem sgn_small {P Q D N:Int} (hq:0 < Q) (hD:0 < D) (h:P*D=N*Q):cmpI P 0=cmpI N 0:=by
 rw [←cm_pos (a:=P) hD,←cm_pos (a:=N) hq,Int.mul_comm D P,Int.mul_comm Q N,h]
theorem side_val {ax ay da bx by' db cx cy dc:Int} {p0 q0 p1 q1 p2 q2 p3 q3 p4 q4 p5 q5 P0 Q0 C0 P1 Q1 C1 P2 Q2 C2 P3 Q3 C3 P4 Q4 C4 P5 Q5 C5 P6 Q6 C6:Int} (hd:0 < da∧0 < db∧0 < dc) (v0:Vl 64 p0 q0 ax da) (v1:Vl 64 p1 q1 ay da) (v2:Vl 64 p2 q2 bx db) (v3:Vl 64 p3 q3 by' db) (v4:Vl 64 p4 q4 cx dc) (v5:Vl 64 p5 q5 cy dc) (e0:adP p2 q2 (-p0) q0=P0∧adQ p2 q2 (-p0) q0=Q0∧adC p2 q2 (-p0) q0=C0) (e1:adP p5 q5 (-p1) q1=P1∧adQ p5 q5 (-p1) q1=Q1∧adC p5 q5 (-p1) q1=C1) (e2:muP P0 Q0 P1 Q1=P2∧muQ P0 Q0 P1 Q1=Q2∧muC P0 Q0 P1 Q1=C2) (e3:adP p3 q3 (-p1) q1=P3∧adQ p3 q3 (-p1) q1=Q3∧adC p3 q3 (-p1) q1=C3) (e4:adP p4 q4 (-p0) q0=P4∧adQ p4 q4 (-p0) q0=Q4∧adC p4 q4 (-p0) q0=C4) (e5:muP P3 Q3 P4 Q4=P5∧muQ P3 Q3 P4 Q4=Q5∧muC P3 Q3 P4 Q4=C5) (e6:adP P2 Q2 (-P5) Q5=P6∧adQ P2 Q2 (-P5) Q5=Q6∧adC P2 Q2 (-P5) Q5=C6) :
  siV p0 q0 p1 q1 p2 q2 p3 q3 p4 q4 p5 q5 P6 (feV [C0,C1,C2,C3,C4,C5,C6])=cmpI (arN ax ay da bx by' db cx cy dc) 0∧siC p0 q0 p1 q1 p2 q2 p3 q3 p4 q4 p5 q5 (feV [C0,C1,C2,C3,C4,C5,C6])=0:=by
 obtain ⟨h1,h2,h3,_⟩:=area_small hd v0 v1 v2 v3 v4 v5 e0 e1 e2 e3 e4 e5 e6
 have hD:0 < (da*da*db*dc):=Int.mul_pos (Int.mul_pos (Int.mul_pos hd.1 hd.1) hd.2.1) hd.2.2
 rw [h1]
 unfold siV siC
 by_cases hw:pwE p0 q0 p1 q1=0∧pwE p2 q2 p3 q3=0∧pwE p4 q4 p5 q5=0
 ·rw [if_pos hw,if_pos hw]
  obtain ⟨⟨a1,a2⟩,_⟩:=pw_zero hw.1
  obtain ⟨⟨a3,a4⟩,_⟩:=pw_zero hw.2.1
  obtain ⟨⟨a5,a6⟩,_⟩:=pw_zero hw.2.2
  subst a1 a2 a3 a4 a5 a6
  have z0:=v0.2.2.2.2
  have z1:=v1.2.2.2.2
  have z2:=v2.2.2.2.2
  have z3:=v3.2.2.2.2
  have z4:=v4.2.2.2.2
  have z5:=v5.2.2.2.2
  rw [Int.mul_one] at z0 z1 z2 z3 z4 z5
  subst z0 z1 z2 z3 z4 z5
  rw [arN_int,cm_pos hD,sd_sub']
  exact ⟨rfl,rfl⟩
 ·rw [if_neg hw,if_neg hw]
  exact ⟨sgn_small h2.1 hD h3,rfl⟩
end Go.Proofs.YtagakcficjcfhaaGreat
