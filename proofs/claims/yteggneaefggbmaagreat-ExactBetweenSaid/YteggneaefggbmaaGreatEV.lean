/- Contracts: onGrid, Side. Conditions: as each statement has them. -/
import Derived.Test.YteggneaefggbmaaGreatAE
import Derived.Test.YteggneaefggbmaaGreatEA
import Derived.Test.YteggneaefggbmaaGreatEQ
namespace Go.Proofs.YteggneaefggbmaaGreat
set_option maxRecDepth 100000
set_option maxHeartbeats 12800000
open Go.RowKit
attribute [local go_sem ↓] Go.wp_at_zero Go.wp_at_succ
set_option linter.unusedVariables false
set_option linter.unusedSimpArgs false
theorem hx3_0 {v0 v1 v2 v3 v4 v5 v6 v7 v8 v9 v10 v11 v12 v13 v14 v15 v16 v17 v18 v19 v20 v21 v22 v23:Value} (wx:World):(Instr.index 156 (.agg #[v0,v1,v2,v3,v4,v5,v6,v7,v8,v9,v10,v11,v12,v13,v14,v15,v16,v17,v18,v19,v20,v21,v22,v23]) (.int .i64 0)).run Tryz.prog wx=.ok (.agg #[v0,v1,v2,v3,v4,v5,v6,v7]) wx:=by
 first
  | kernel_rfl
  | simp [Instr.index,run_underlying Tryz.underlying156,asIntOf,go_sem]
theorem hx3_1 {v0 v1 v2 v3 v4 v5 v6 v7 v8 v9 v10 v11 v12 v13 v14 v15 v16 v17 v18 v19 v20 v21 v22 v23:Value} (wx:World):(Instr.index 156 (.agg #[v0,v1,v2,v3,v4,v5,v6,v7,v8,v9,v10,v11,v12,v13,v14,v15,v16,v17,v18,v19,v20,v21,v22,v23]) (.int .i64 1)).run Tryz.prog wx=.ok (.agg #[v8,v9,v10,v11,v12,v13,v14,v15]) wx:=by
 first
  | kernel_rfl
  | simp [Instr.index,run_underlying Tryz.underlying156,asIntOf,go_sem]
theorem hx3_2 {v0 v1 v2 v3 v4 v5 v6 v7 v8 v9 v10 v11 v12 v13 v14 v15 v16 v17 v18 v19 v20 v21 v22 v23:Value} (wx:World):(Instr.index 156 (.agg #[v0,v1,v2,v3,v4,v5,v6,v7,v8,v9,v10,v11,v12,v13,v14,v15,v16,v17,v18,v19,v20,v21,v22,v23]) (.int .i64 2)).run Tryz.prog wx=.ok (.agg #[v16,v17,v18,v19,v20,v21,v22,v23]) wx:=by
 first
  | kernel_rfl
  | simp [Instr.index,run_underlying Tryz.underlying156,asIntOf,go_sem]
theorem fr3 {p q:Int} (h:Fr p q):0 < q∧p.natAbs < lim∧q.natAbs < lim:=⟨h.1.1,h.2.1,h.2.2⟩
theorem G3_size:(Tryz.prog.info? 153).map (·.size)=some 6:=by kernel_rfl
theorem pw_zero {p q u v:Int} (h:pwE p q u v=0):(q=1∧v=1)∧(pwX p q u v=p∧pwY p q u v=u)∧vdP (p,u)=0:=by
 have h0:=h
 unfold pwE ogC at h
 by_cases hc:eiC whC p q u v=0
 ·rw [if_pos hc] at h
  have hc2:=hc
  unfold eiC at hc
  have h1:whC p q=0:=by
   by_cases e:whC p q=0
   ·exact e
   rw [if_neg e] at hc; exact absurd hc e
  rw [if_pos h1] at hc
  have k1:isSm p=true∧q=1:=by
   by_cases e:isSm p=true∧q=1
   ·exact e
   unfold whC at h1; rw [if_neg e] at h1; exact absurd h1 (by decide)
  have k2:isSm u=true∧v=1:=by
   by_cases e:isSm u=true∧v=1
   ·exact e
   unfold whC at hc; rw [if_neg e] at hc; exact absurd hc (by decide)
  have e1:pwA p q u v=p:=by unfold pwA eiA; rw [if_pos ⟨h1,hc⟩]; exact if_pos k1
  have e2:pwB p q u v=u:=by unfold pwB eiB; rw [if_pos ⟨h1,hc⟩]; exact if_pos k2
  rw [e1,e2] at h
  exact ⟨⟨k1.2,k2.2⟩,⟨by unfold pwX; rw [if_pos h0,e1],by unfold pwY; rw [if_pos h0,e2]⟩,h⟩
 ·rw [if_neg hc] at h
  exact absurd h hc
/-- The value and the error of Side: P and C are those of the area. -/
def siV (p0 q0 p1 q1 p2 q2 p3 q3 p4 q4 p5 q5 P C:Int):Int:=if pwE p0 q0 p1 q1=0∧pwE p2 q2 p3 q3=0∧pwE p4 q4 p5 q5=0 then sdV p0 p1 p2 p3 p4 p5 else cmpI (feP C P) 0
def siC (p0 q0 p1 q1 p2 q2 p3 q3 p4 q4 p5 q5 C:Int):Int:=if pwE p0 q0 p1 q1=0∧pwE p2 q2 p3 q3=0∧pwE p4 q4 p5 q5=0 then 0 else C
theorem og3_any (p0 q0 p1 q1 p2 q2 p3 q3 p4 q4 p5 q5:Int) (s0:Bool) (A0:Option Addr) (n0 c0:Nat) (t0:Bool) (B0:Option Addr) (m0 d0:Nat) (s1:Bool) (A1:Option Addr) (n1 c1:Nat) (t1:Bool) (B1:Option Addr) (m1 d1:Nat) (s2:Bool) (A2:Option Addr) (n2 c2:Nat) (t2:Bool) (B2:Option Addr) (m2 d2:Nat) (s3:Bool) (A3:Option Addr) (n3 c3:Nat) (t3:Bool) (B3:Option Addr) (m3 d3:Nat) (s4:Bool) (A4:Option Addr) (n4 c4:Nat) (t4:Bool) (B4:Option Addr) (m4 d4:Nat) (s5:Bool) (A5:Option Addr) (n5 c5:Nat) (t5:Bool) (B5:Option Addr) (m5 d5:Nat) (w:World) (h0:PF w s0 A0 n0 c0 t0 B0 m0 d0 p0 q0) (h1:PF w s1 A1 n1 c1 t1 B1 m1 d1 p1 q1) (h2:PF w s2 A2 n2 c2 t2 B2 m2 d2 p2 q2) (h3:PF w s3 A3 n3 c3 t3 B3 m3 d3 p3 q3) (h4:PF w s4 A4 n4 c4 t4 B4 m4 d4 p4 q4) (h5:PF w s5 A5 n5 c5 t5 B5 m5 d5 p5 q5) (f0:Fr p0 q0) (f1:Fr p1 q1) (f2:Fr p2 q2) (f3:Fr p3 q3) (f4:Fr p4 q4) (f5:Fr p5 q5) :
  Calls Tryz.prog 96 #[.agg #[.bool s0,.slice A0 n0 c0,.bool t0,.slice B0 m0 d0,.bool s1,.slice A1 n1 c1,.bool t1,.slice B1 m1 d1,.bool s2,.slice A2 n2 c2,.bool t2,.slice B2 m2 d2,.bool s3,.slice A3 n3 c3,.bool t3,.slice B3 m3 d3,.bool s4,.slice A4 n4 c4,.bool t4,.slice B4 m4 d4,.bool s5,.slice A5 n5 c5,.bool t5,.slice B5 m5 d5]] w fun e w'=>∃ l0 l1 l2 l3 l4 l5:Int,e=.returned (.tuple #[.agg #[.int .i64 l0,.int .i64 l1,.int .i64 l2,.int .i64 l3,.int .i64 l4,.int .i64 l5],.bool (decide (pwE p0 q0 p1 q1=0∧pwE p2 q2 p3 q3=0∧pwE p4 q4 p5 q5=0))])∧(pwE p0 q0 p1 q1=0∧pwE p2 q2 p3 q3=0∧pwE p4 q4 p5 q5=0→l0=pwX p0 q0 p1 q1∧l1=pwY p0 q0 p1 q1∧l2=pwX p2 q2 p3 q3∧l3=pwY p2 q2 p3 q3∧l4=pwX p4 q4 p5 q5∧l5=pwY p4 q4 p5 q5)∧Below w.heap.size w w':=by
 have bD:=hJ h0
 have bE:=hJ f0
 have bF:=hJ h1
 have bG:=hJ f1
 have bH:=hJ h2
 have bJ:=hJ f2
 have bK:=hJ h3
 have bL:=hJ f3
 have bM:=hJ h4
 have bN:=hJ f4
 have bO:=hJ h5
 have bP:=hJ f5
 clear h0 f0 h1 f1 h2 f2 h3 f3 h4 f4 h5 f5
 obtain ⟨x1,aO⟩:=nmz ((w.alloc (.cells #[.bool s0,.slice A0 n0 c0,.bool t0,.slice B0 m0 d0,.bool s1,.slice A1 n1 c1,.bool t1,.slice B1 m1 d1,.bool s2,.slice A2 n2 c2,.bool t2,.slice B2 m2 d2,.bool s3,.slice A3 n3 c3,.bool t3,.slice B3 m3 d3,.bool s4,.slice A4 n4 c4,.bool t4,.slice B4 m4 d4,.bool s5,.slice A5 n5 c5,.bool t5,.slice B5 m5 d5] 156)).alloc (.cells #[.int .i64 0,.int .i64 0,.int .i64 0,.int .i64 0,.int .i64 0,.int .i64 0] 153))
 have cW:=hJ (show Below w.heap.size w x1 by rw [←aO]; exact (((Below.refl _ _).alloc (Nat.le_refl _) _).alloc (by simp only [World.size_alloc]; omega) _))
 have cX:=hJ (show BX 156 x1 w.heap.size #[.bool s0,.slice A0 n0 c0,.bool t0,.slice B0 m0 d0,.bool s1,.slice A1 n1 c1,.bool t1,.slice B1 m1 d1,.bool s2,.slice A2 n2 c2,.bool t2,.slice B2 m2 d2,.bool s3,.slice A3 n3 c3,.bool t3,.slice B3 m3 d3,.bool s4,.slice A4 n4 c4,.bool t4,.slice B4 m4 d4,.bool s5,.slice A5 n5 c5,.bool t5,.slice B5 m5 d5] by rw [←aO]; exact ((BX.at rfl).alloc _))
 have cY:=hJ (show BX 153 x1 (w.heap.size+1) #[.int .i64 0,.int .i64 0,.int .i64 0,.int .i64 0,.int .i64 0,.int .i64 0] by rw [←aO]; exact (BX.at (by simp only [World.size_alloc])))
 have aJ:=hJ (show w.heap.size≤w.heap.size+1 by omega)
 go_enter Tryz.func96,Tryz.ntmps96
 go_wp2_with (refine wpList_load_row rfl 156 _ rfl w.heap.size rfl 156 #[.bool s0,.slice A0 n0 c0,.bool t0,.slice B0 m0 d0,.bool s1,.slice A1 n1 c1,.bool t1,.slice B1 m1 d1,.bool s2,.slice A2 n2 c2,.bool t2,.slice B2 m2 d2,.bool s3,.slice A3 n3 c3,.bool t3,.slice B3 m3 d3,.bool s4,.slice A4 n4 c4,.bool t4,.slice B4 m4 d4,.bool s5,.slice A5 n5 c5,.bool t5,.slice B5 m5 d5] (0,0) _ cX.out Tryz.underlying156 rfl (by kernel_rfl) ?_)
 clear aO
 go_loopw [7,3] (fun tv tz0 wr=>∃ i:Nat,tv=.int .i64 (i:Int)∧Below w.heap.size w wr∧((i=0∧tz0=.bool false∧Hid (BX 153 wr (w.heap.size+1) #[.int .i64 0,.int .i64 0,.int .i64 0,.int .i64 0,.int .i64 0,.int .i64 0]))∨(i=1∧tz0=.bool true∧Hid (BX 153 wr (w.heap.size+1) #[.int .i64 (pwX p0 q0 p1 q1),.int .i64 (pwY p0 q0 p1 q1),.int .i64 0,.int .i64 0,.int .i64 0,.int .i64 0])∧Hid (pwE p0 q0 p1 q1=0))∨(i=2∧tz0=.bool true∧Hid (BX 153 wr (w.heap.size+1) #[.int .i64 (pwX p0 q0 p1 q1),.int .i64 (pwY p0 q0 p1 q1),.int .i64 (pwX p2 q2 p3 q3),.int .i64 (pwY p2 q2 p3 q3),.int .i64 0,.int .i64 0])∧Hid (pwE p0 q0 p1 q1=0)∧Hid (pwE p2 q2 p3 q3=0))∨(i=3∧tz0=.bool true∧Hid (BX 153 wr (w.heap.size+1) #[.int .i64 (pwX p0 q0 p1 q1),.int .i64 (pwY p0 q0 p1 q1),.int .i64 (pwX p2 q2 p3 q3),.int .i64 (pwY p2 q2 p3 q3),.int .i64 (pwX p4 q4 p5 q5),.int .i64 (pwY p4 q4 p5 q5)])∧Hid (pwE p0 q0 p1 q1=0)∧Hid (pwE p2 q2 p3 q3=0)∧Hid (pwE p4 q4 p5 q5=0)))) (fun tv _ _=>3 - (intOf tv).toNat)
 case atStart=>exact ⟨0,rfl,cW.out,.inl ⟨rfl,rfl,cY⟩⟩
 case round =>
  obtain ⟨i2,rfl,hbel,hdis⟩:=hrel
  obtain ⟨wl2,rfl⟩:∃ W:World,W=wr:=⟨_,rfl⟩
  have aL:=hJ hbel
  clear hbel
  rcases hdis with ⟨rfl,rfl,aB⟩ | ⟨rfl,rfl,aB,aK⟩ | ⟨rfl,rfl,aB,aK,aM⟩ | ⟨rfl,rfl,aB,aK,aM,aP⟩
  ·(try rw [show ((0:Nat):Int)=0 from rfl])
   have aQ:=hJ aB.out.lt
   have hix:∀ wx,(Instr.index 156 (.agg #[.bool s0,.slice A0 n0 c0,.bool t0,.slice B0 m0 d0,.bool s1,.slice A1 n1 c1,.bool t1,.slice B1 m1 d1,.bool s2,.slice A2 n2 c2,.bool t2,.slice B2 m2 d2,.bool s3,.slice A3 n3 c3,.bool t3,.slice B3 m3 d3,.bool s4,.slice A4 n4 c4,.bool t4,.slice B4 m4 d4,.bool s5,.slice A5 n5 c5,.bool t5,.slice B5 m5 d5]) (.int .i64 0)).run Tryz.prog wx=.ok (.agg #[.bool s0,.slice A0 n0 c0,.bool t0,.slice B0 m0 d0,.bool s1,.slice A1 n1 c1,.bool t1,.slice B1 m1 d1]) wx:=fun wx=>hx3_0 wx
   by_cases hw:pwE p0 q0 p1 q1=0
   ·have aK:=hJ hw
    clear hw
    obtain ⟨x3,aR⟩:=nmz (wl2.alloc (.cells #[.bool s0,.slice A0 n0 c0,.bool t0,.slice B0 m0 d0,.bool s1,.slice A1 n1 c1,.bool t1,.slice B1 m1 d1] 29))
    have bQ:=hJ (show Below wl2.heap.size wl2 x3 by rw [←aR]; exact ((Below.refl _ _).alloc (Nat.le_refl _) _))
    have cZ:=hJ (show BX 29 x3 wl2.heap.size #[.bool s0,.slice A0 n0 c0,.bool t0,.slice B0 m0 d0,.bool s1,.slice A1 n1 c1,.bool t1,.slice B1 m1 d1] by rw [←aR]; exact (BX.at rfl))
    obtain ⟨dA,dB,dD,dE,dF,dG,dH,dI⟩:=cZ.out.q8 0 1 2 3 4 5 6 7
    have aC:=hJ (bt aL.out bQ.out)
    have aS:=hJ (PF.new bD.out aC.out)
    have aT:=hJ (PF.new bF.out aC.out)
    go_wp2_with fail
    clear hix aR dA dB dD dE dF dG dH dI
    refine (pwhole_any p0 q0 p1 q1 s0 A0 n0 c0 t0 B0 m0 d0 s1 A1 n1 c1 t1 B1 m1 d1 x3 aS.out aT.out ⟨fr3 bE.out,fr3 bG.out⟩).mono ?_
    rw [decide_eq_true aK.out]
    rintro e w12 ⟨rfl,hb⟩
    have bR:=hJ hb
    clear hb
    have aG:=hJ (bt bQ.out bR.out)
    have aA:=hJ (BX.new aB.out aG.out)
    have dJ:=aA.out.frozen 0
    have dK:=aA.out.cell 0 rfl
    have dL:=aA.out.frozen 1
    have dM:=aA.out.cell 1 rfl
    obtain ⟨x13,bS⟩:=nmz (World.setCell (World.setCell w12 ⟨w.heap.size+1,0,none⟩ (.int .i64 (pwX p0 q0 p1 q1))) ⟨w.heap.size+1,1,none⟩ (.int .i64 (pwY p0 q0 p1 q1)))
    have bT:=hJ (show sto w12 (w.heap.size+1) 0 [.int .i64 (pwX p0 q0 p1 q1),.int .i64 (pwY p0 q0 p1 q1)]=x13 from bS)
    have dN:=hJ (show BX 153 x13 (w.heap.size+1) #[.int .i64 (pwX p0 q0 p1 q1),.int .i64 (pwY p0 q0 p1 q1),.int .i64 0,.int .i64 0,.int .i64 0,.int .i64 0] by rw [←bT.out]; exact BX.put aA.out _ _)
    have aH:=hJ (show Below w.heap.size w x13 by rw [←bT.out]; exact below_sto (bt aC.out bR.out) aJ.out _ _)
    go_wp2_with fail
    clear dJ dK dL dM bS
    go_roundw
    case rel=>exact ⟨1,by go_num,aH.out,.inr (.inl ⟨rfl,rfl,dN,aK⟩)⟩
    case measure=>simp [intOf] <;> omega
   have aI:=hJ hw
   clear hw
   obtain ⟨x14,aU⟩:=nmz (wl2.alloc (.cells #[.bool s0,.slice A0 n0 c0,.bool t0,.slice B0 m0 d0,.bool s1,.slice A1 n1 c1,.bool t1,.slice B1 m1 d1] 29))
   have bU:=hJ (show Below wl2.heap.size wl2 x14 by rw [←aU]; exact ((Below.refl _ _).alloc (Nat.le_refl _) _))
   have dO:=hJ (show BX 29 x14 wl2.heap.size #[.bool s0,.slice A0 n0 c0,.bool t0,.slice B0 m0 d0,.bool s1,.slice A1 n1 c1,.bool t1,.slice B1 m1 d1] by rw [←aU]; exact (BX.at rfl))
   obtain ⟨dP,dQ,dR,dS,dT,dU,dW,dX⟩:=dO.out.q8 0 1 2 3 4 5 6 7
   have aC:=hJ (bt aL.out bU.out)
   have aS:=hJ (PF.new bD.out aC.out)
   have aT:=hJ (PF.new bF.out aC.out)
   go_wp2_with fail
   clear hix aU dP dQ dR dS dT dU dW dX
   refine (pwhole_any p0 q0 p1 q1 s0 A0 n0 c0 t0 B0 m0 d0 s1 A1 n1 c1 t1 B1 m1 d1 x14 aS.out aT.out ⟨fr3 bE.out,fr3 bG.out⟩).mono ?_
   rw [decide_eq_false aI.out]
   rintro e w23 ⟨rfl,hb⟩
   have bV:=hJ hb
   clear hb
   have aG:=hJ (bt bU.out bV.out)
   have aA:=hJ (BX.new aB.out aG.out)
   have dY:=aA.out.frozen 0
   have dZ:=aA.out.cell 0 rfl
   have eA:=aA.out.frozen 1
   have eB:=aA.out.cell 1 rfl
   obtain ⟨x24,bW⟩:=nmz (World.setCell (World.setCell w23 ⟨w.heap.size+1,0,none⟩ (.int .i64 (pwX p0 q0 p1 q1))) ⟨w.heap.size+1,1,none⟩ (.int .i64 (pwY p0 q0 p1 q1)))
   have bX:=hJ (show sto w23 (w.heap.size+1) 0 [.int .i64 (pwX p0 q0 p1 q1),.int .i64 (pwY p0 q0 p1 q1)]=x24 from bW)
   have aD:=hJ (show BX 153 x24 (w.heap.size+1) #[.int .i64 (pwX p0 q0 p1 q1),.int .i64 (pwY p0 q0 p1 q1),.int .i64 0,.int .i64 0,.int .i64 0,.int .i64 0] by rw [←bX.out]; exact BX.put aA.out _ _)
   obtain ⟨eC,eD,eE,eF⟩:=aD.out.q4 0 1 2 3
   have eG:=aD.out.cell 4 rfl
   have eH:=aD.out.cell 5 rfl
   have eI:=aD.out.frozen 0
   have eJ:=aD.out.cell 0 rfl
   have eK:=aD.out.frozen 1
   have eL:=aD.out.cell 1 rfl
   have eM:=aD.out.frozen 2
   have eN:=aD.out.cell 2 rfl
   have eO:=aD.out.frozen 3
   have eP:=aD.out.cell 3 rfl
   have eQ:=aD.out.frozen 4
   have eR:=aD.out.cell 4 rfl
   have eS:=aD.out.frozen 5
   have eT:=aD.out.cell 5 rfl
   obtain ⟨x31,bY⟩:=nmz (World.setCell (World.setCell (World.setCell (World.setCell (World.setCell (World.setCell x24 ⟨w.heap.size+1,0,none⟩ (.int .i64 (pwX p0 q0 p1 q1))) ⟨w.heap.size+1,1,none⟩ (.int .i64 (pwY p0 q0 p1 q1))) ⟨w.heap.size+1,2,none⟩ (.int .i64 0)) ⟨w.heap.size+1,3,none⟩ (.int .i64 0)) ⟨w.heap.size+1,4,none⟩ (.int .i64 0)) ⟨w.heap.size+1,5,none⟩ (.int .i64 0))
   have bZ:=hJ (show sto x24 (w.heap.size+1) 0 [.int .i64 (pwX p0 q0 p1 q1),.int .i64 (pwY p0 q0 p1 q1),.int .i64 0,.int .i64 0,.int .i64 0,.int .i64 0]=x31 from bY)
   have eU:=hJ (show BX 153 x31 (w.heap.size+1) #[.int .i64 (pwX p0 q0 p1 q1),.int .i64 (pwY p0 q0 p1 q1),.int .i64 0,.int .i64 0,.int .i64 0,.int .i64 0] by rw [←bZ.out]; exact BX.put aD.out _ _)
   have aH:=hJ (show Below w.heap.size w x24 by rw [←bX.out]; exact below_sto (bt aC.out bV.out) aJ.out _ _)
   have aN:=hJ (show Below w.heap.size w x31 by rw [←bZ.out]; exact below_sto aH.out aJ.out _ _)
   go_wp2
   clear dY dZ eA eB bW eC eD eE eF eG eH eI eJ eK eL eM eN eO eP eQ eR eS eT bY
   exact bodyPost_ret (results_cell1 rfl _ _ _ _ _ _ _ rfl eU.out Tryz.underlying153 rfl G3_size) rfl ⟨(pwX p0 q0 p1 q1),(pwY p0 q0 p1 q1),0,0,0,0,by rw [decide_eq_false (show ¬(pwE p0 q0 p1 q1=0∧pwE p2 q2 p3 q3=0∧pwE p4 q4 p5 q5=0) from fun h=>aI.out h.1)] <;> rfl,fun h=>absurd h.1 aI.out,aN.out⟩
  ·(try rw [show ((1:Nat):Int)=1 from rfl])
   have aQ:=hJ aB.out.lt
   have hix:∀ wx,(Instr.index 156 (.agg #[.bool s0,.slice A0 n0 c0,.bool t0,.slice B0 m0 d0,.bool s1,.slice A1 n1 c1,.bool t1,.slice B1 m1 d1,.bool s2,.slice A2 n2 c2,.bool t2,.slice B2 m2 d2,.bool s3,.slice A3 n3 c3,.bool t3,.slice B3 m3 d3,.bool s4,.slice A4 n4 c4,.bool t4,.slice B4 m4 d4,.bool s5,.slice A5 n5 c5,.bool t5,.slice B5 m5 d5]) (.int .i64 1)).run Tryz.prog wx=.ok (.agg #[.bool s2,.slice A2 n2 c2,.bool t2,.slice B2 m2 d2,.bool s3,.slice A3 n3 c3,.bool t3,.slice B3 m3 d3]) wx:=fun wx=>hx3_1 wx
   by_cases hw:pwE p2 q2 p3 q3=0
   ·have aM:=hJ hw
    clear hw
    obtain ⟨x32,aV⟩:=nmz (wl2.alloc (.cells #[.bool s2,.slice A2 n2 c2,.bool t2,.slice B2 m2 d2,.bool s3,.slice A3 n3 c3,.bool t3,.slice B3 m3 d3] 29))
    have cA:=hJ (show Below wl2.heap.size wl2 x32 by rw [←aV]; exact ((Below.refl _ _).alloc (Nat.le_refl _) _))
    have eV:=hJ (show BX 29 x32 wl2.heap.size #[.bool s2,.slice A2 n2 c2,.bool t2,.slice B2 m2 d2,.bool s3,.slice A3 n3 c3,.bool t3,.slice B3 m3 d3] by rw [←aV]; exact (BX.at rfl))
    obtain ⟨eW,eX,eY,eZ,fA,fB,fC,fD⟩:=eV.out.q8 0 1 2 3 4 5 6 7
    have aC:=hJ (bt aL.out cA.out)
    have aW:=hJ (PF.new bH.out aC.out)
    have aX:=hJ (PF.new bK.out aC.out)
    go_wp2_with fail
    clear hix aV eW eX eY eZ fA fB fC fD
    refine (pwhole_any p2 q2 p3 q3 s2 A2 n2 c2 t2 B2 m2 d2 s3 A3 n3 c3 t3 B3 m3 d3 x32 aW.out aX.out ⟨fr3 bJ.out,fr3 bL.out⟩).mono ?_
    rw [decide_eq_true aM.out]
    rintro e w41 ⟨rfl,hb⟩
    have cB:=hJ hb
    clear hb
    have aG:=hJ (bt cA.out cB.out)
    have aA:=hJ (BX.new aB.out aG.out)
    have fE:=aA.out.frozen 2
    have fF:=aA.out.cell 2 rfl
    have fG:=aA.out.frozen 3
    have fH:=aA.out.cell 3 rfl
    obtain ⟨x42,cC⟩:=nmz (World.setCell (World.setCell w41 ⟨w.heap.size+1,2,none⟩ (.int .i64 (pwX p2 q2 p3 q3))) ⟨w.heap.size+1,3,none⟩ (.int .i64 (pwY p2 q2 p3 q3)))
    have cD:=hJ (show sto w41 (w.heap.size+1) 2 [.int .i64 (pwX p2 q2 p3 q3),.int .i64 (pwY p2 q2 p3 q3)]=x42 from cC)
    have fI:=hJ (show BX 153 x42 (w.heap.size+1) #[.int .i64 (pwX p0 q0 p1 q1),.int .i64 (pwY p0 q0 p1 q1),.int .i64 (pwX p2 q2 p3 q3),.int .i64 (pwY p2 q2 p3 q3),.int .i64 0,.int .i64 0] by rw [←cD.out]; exact BX.put aA.out _ _)
    have aH:=hJ (show Below w.heap.size w x42 by rw [←cD.out]; exact below_sto (bt aC.out cB.out) aJ.out _ _)
    go_wp2_with fail
    clear fE fF fG fH cC
    go_roundw
    case rel=>exact ⟨2,by go_num,aH.out,.inr (.inr (.inl ⟨rfl,rfl,fI,aK,aM⟩))⟩
    case measure=>simp [intOf] <;> omega
   have aI:=hJ hw
   clear hw
   obtain ⟨x43,aY⟩:=nmz (wl2.alloc (.cells #[.bool s2,.slice A2 n2 c2,.bool t2,.slice B2 m2 d2,.bool s3,.slice A3 n3 c3,.bool t3,.slice B3 m3 d3] 29))
   have cE:=hJ (show Below wl2.heap.size wl2 x43 by rw [←aY]; exact ((Below.refl _ _).alloc (Nat.le_refl _) _))
   have fJ:=hJ (show BX 29 x43 wl2.heap.size #[.bool s2,.slice A2 n2 c2,.bool t2,.slice B2 m2 d2,.bool s3,.slice A3 n3 c3,.bool t3,.slice B3 m3 d3] by rw [←aY]; exact (BX.at rfl))
   obtain ⟨fK,fL,fM,fN,fO,fP,fQ,fR⟩:=fJ.out.q8 0 1 2 3 4 5 6 7
   have aC:=hJ (bt aL.out cE.out)
   have aW:=hJ (PF.new bH.out aC.out)
   have aX:=hJ (PF.new bK.out aC.out)
   go_wp2_with fail
   clear hix aY fK fL fM fN fO fP fQ fR
   refine (pwhole_any p2 q2 p3 q3 s2 A2 n2 c2 t2 B2 m2 d2 s3 A3 n3 c3 t3 B3 m3 d3 x43 aW.out aX.out ⟨fr3 bJ.out,fr3 bL.out⟩).mono ?_
   rw [decide_eq_false aI.out]
   rintro e w52 ⟨rfl,hb⟩
   have cF:=hJ hb
   clear hb
   have aG:=hJ (bt cE.out cF.out)
   have aA:=hJ (BX.new aB.out aG.out)
   have fS:=aA.out.frozen 2
   have fT:=aA.out.cell 2 rfl
   have fU:=aA.out.frozen 3
   have fV:=aA.out.cell 3 rfl
   obtain ⟨x53,cG⟩:=nmz (World.setCell (World.setCell w52 ⟨w.heap.size+1,2,none⟩ (.int .i64 (pwX p2 q2 p3 q3))) ⟨w.heap.size+1,3,none⟩ (.int .i64 (pwY p2 q2 p3 q3)))
   have cH:=hJ (show sto w52 (w.heap.size+1) 2 [.int .i64 (pwX p2 q2 p3 q3),.int .i64 (pwY p2 q2 p3 q3)]=x53 from cG)
   have aE:=hJ (show BX 153 x53 (w.heap.size+1) #[.int .i64 (pwX p0 q0 p1 q1),.int .i64 (pwY p0 q0 p1 q1),.int .i64 (pwX p2 q2 p3 q3),.int .i64 (pwY p2 q2 p3 q3),.int .i64 0,.int .i64 0] by rw [←cH.out]; exact BX.put aA.out _ _)
   obtain ⟨fW,fX,fY,fZ⟩:=aE.out.q4 0 1 2 3
   have gA:=aE.out.cell 4 rfl
   have gB:=aE.out.cell 5 rfl
   have gC:=aE.out.frozen 0
   have gD:=aE.out.cell 0 rfl
   have gE:=aE.out.frozen 1
   have gF:=aE.out.cell 1 rfl
   have gG:=aE.out.frozen 2
   have gH:=aE.out.cell 2 rfl
   have gI:=aE.out.frozen 3
   have gJ:=aE.out.cell 3 rfl
   have gK:=aE.out.frozen 4
   have gL:=aE.out.cell 4 rfl
   have gM:=aE.out.frozen 5
   have gN:=aE.out.cell 5 rfl
   obtain ⟨x60,cI⟩:=nmz (World.setCell (World.setCell (World.setCell (World.setCell (World.setCell (World.setCell x53 ⟨w.heap.size+1,0,none⟩ (.int .i64 (pwX p0 q0 p1 q1))) ⟨w.heap.size+1,1,none⟩ (.int .i64 (pwY p0 q0 p1 q1))) ⟨w.heap.size+1,2,none⟩ (.int .i64 (pwX p2 q2 p3 q3))) ⟨w.heap.size+1,3,none⟩ (.int .i64 (pwY p2 q2 p3 q3))) ⟨w.heap.size+1,4,none⟩ (.int .i64 0)) ⟨w.heap.size+1,5,none⟩ (.int .i64 0))
   have cJ:=hJ (show sto x53 (w.heap.size+1) 0 [.int .i64 (pwX p0 q0 p1 q1),.int .i64 (pwY p0 q0 p1 q1),.int .i64 (pwX p2 q2 p3 q3),.int .i64 (pwY p2 q2 p3 q3),.int .i64 0,.int .i64 0]=x60 from cI)
   have gO:=hJ (show BX 153 x60 (w.heap.size+1) #[.int .i64 (pwX p0 q0 p1 q1),.int .i64 (pwY p0 q0 p1 q1),.int .i64 (pwX p2 q2 p3 q3),.int .i64 (pwY p2 q2 p3 q3),.int .i64 0,.int .i64 0] by rw [←cJ.out]; exact BX.put aE.out _ _)
   have aH:=hJ (show Below w.heap.size w x53 by rw [←cH.out]; exact below_sto (bt aC.out cF.out) aJ.out _ _)
   have aN:=hJ (show Below w.heap.size w x60 by rw [←cJ.out]; exact below_sto aH.out aJ.out _ _)
   go_wp2
   clear fS fT fU fV cG fW fX fY fZ gA gB gC gD gE gF gG gH gI gJ gK gL gM gN cI
   exact bodyPost_ret (results_cell1 rfl _ _ _ _ _ _ _ rfl gO.out Tryz.underlying153 rfl G3_size) rfl ⟨(pwX p0 q0 p1 q1),(pwY p0 q0 p1 q1),(pwX p2 q2 p3 q3),(pwY p2 q2 p3 q3),0,0,by rw [decide_eq_false (show ¬(pwE p0 q0 p1 q1=0∧pwE p2 q2 p3 q3=0∧pwE p4 q4 p5 q5=0) from fun h=>aI.out h.2.1)] <;> rfl,fun h=>absurd h.2.1 aI.out,aN.out⟩
  ·(try rw [show ((2:Nat):Int)=2 from rfl])
   have aQ:=hJ aB.out.lt
   have hix:∀ wx,(Instr.index 156 (.agg #[.bool s0,.slice A0 n0 c0,.bool t0,.slice B0 m0 d0,.bool s1,.slice A1 n1 c1,.bool t1,.slice B1 m1 d1,.bool s2,.slice A2 n2 c2,.bool t2,.slice B2 m2 d2,.bool s3,.slice A3 n3 c3,.bool t3,.slice B3 m3 d3,.bool s4,.slice A4 n4 c4,.bool t4,.slice B4 m4 d4,.bool s5,.slice A5 n5 c5,.bool t5,.slice B5 m5 d5]) (.int .i64 2)).run Tryz.prog wx=.ok (.agg #[.bool s4,.slice A4 n4 c4,.bool t4,.slice B4 m4 d4,.bool s5,.slice A5 n5 c5,.bool t5,.slice B5 m5 d5]) wx:=fun wx=>hx3_2 wx
   by_cases hw:pwE p4 q4 p5 q5=0
   ·have aP:=hJ hw
    clear hw
    obtain ⟨x61,aZ⟩:=nmz (wl2.alloc (.cells #[.bool s4,.slice A4 n4 c4,.bool t4,.slice B4 m4 d4,.bool s5,.slice A5 n5 c5,.bool t5,.slice B5 m5 d5] 29))
    have cK:=hJ (show Below wl2.heap.size wl2 x61 by rw [←aZ]; exact ((Below.refl _ _).alloc (Nat.le_refl _) _))
    have gP:=hJ (show BX 29 x61 wl2.heap.size #[.bool s4,.slice A4 n4 c4,.bool t4,.slice B4 m4 d4,.bool s5,.slice A5 n5 c5,.bool t5,.slice B5 m5 d5] by rw [←aZ]; exact (BX.at rfl))
    obtain ⟨gQ,gR,gS,gT,gU,gV,gW,gX⟩:=gP.out.q8 0 1 2 3 4 5 6 7
    have aC:=hJ (bt aL.out cK.out)
    have bA:=hJ (PF.new bM.out aC.out)
    have bB:=hJ (PF.new bO.out aC.out)
    go_wp2_with fail
    clear hix aZ gQ gR gS gT gU gV gW gX
    refine (pwhole_any p4 q4 p5 q5 s4 A4 n4 c4 t4 B4 m4 d4 s5 A5 n5 c5 t5 B5 m5 d5 x61 bA.out bB.out ⟨fr3 bN.out,fr3 bP.out⟩).mono ?_
    rw [decide_eq_true aP.out]
    rintro e w70 ⟨rfl,hb⟩
    have cL:=hJ hb
    clear hb
    have aG:=hJ (bt cK.out cL.out)
    have aA:=hJ (BX.new aB.out aG.out)
    have gY:=aA.out.frozen 4
    have gZ:=aA.out.cell 4 rfl
    have hA:=aA.out.frozen 5
    have hB:=aA.out.cell 5 rfl
    obtain ⟨x71,cM⟩:=nmz (World.setCell (World.setCell w70 ⟨w.heap.size+1,4,none⟩ (.int .i64 (pwX p4 q4 p5 q5))) ⟨w.heap.size+1,5,none⟩ (.int .i64 (pwY p4 q4 p5 q5)))
    have cN:=hJ (show sto w70 (w.heap.size+1) 4 [.int .i64 (pwX p4 q4 p5 q5),.int .i64 (pwY p4 q4 p5 q5)]=x71 from cM)
    have hC:=hJ (show BX 153 x71 (w.heap.size+1) #[.int .i64 (pwX p0 q0 p1 q1),.int .i64 (pwY p0 q0 p1 q1),.int .i64 (pwX p2 q2 p3 q3),.int .i64 (pwY p2 q2 p3 q3),.int .i64 (pwX p4 q4 p5 q5),.int .i64 (pwY p4 q4 p5 q5)] by rw [←cN.out]; exact BX.put aA.out _ _)
    have aH:=hJ (show Below w.heap.size w x71 by rw [←cN.out]; exact below_sto (bt aC.out cL.out) aJ.out _ _)
    go_wp2_with fail
    clear gY gZ hA hB cM
    go_roundw
    case rel=>exact ⟨3,by go_num,aH.out,.inr (.inr (.inr (⟨rfl,rfl,hC,aK,aM,aP⟩)))⟩
    case measure=>simp [intOf] <;> omega
   have aI:=hJ hw
   clear hw
   obtain ⟨x72,bC⟩:=nmz (wl2.alloc (.cells #[.bool s4,.slice A4 n4 c4,.bool t4,.slice B4 m4 d4,.bool s5,.slice A5 n5 c5,.bool t5,.slice B5 m5 d5] 29))
   have cO:=hJ (show Below wl2.heap.size wl2 x72 by rw [←bC]; exact ((Below.refl _ _).alloc (Nat.le_refl _) _))
   have hD:=hJ (show BX 29 x72 wl2.heap.size #[.bool s4,.slice A4 n4 c4,.bool t4,.slice B4 m4 d4,.bool s5,.slice A5 n5 c5,.bool t5,.slice B5 m5 d5] by rw [←bC]; exact (BX.at rfl))
   obtain ⟨hE,hF,hG,hH,hI,hK,hL,hM⟩:=hD.out.q8 0 1 2 3 4 5 6 7
   have aC:=hJ (bt aL.out cO.out)
   have bA:=hJ (PF.new bM.out aC.out)
   have bB:=hJ (PF.new bO.out aC.out)
   go_wp2_with fail
   clear hix bC hE hF hG hH hI hK hL hM
   refine (pwhole_any p4 q4 p5 q5 s4 A4 n4 c4 t4 B4 m4 d4 s5 A5 n5 c5 t5 B5 m5 d5 x72 bA.out bB.out ⟨fr3 bN.out,fr3 bP.out⟩).mono ?_
   rw [decide_eq_false aI.out]
   rintro e w81 ⟨rfl,hb⟩
   have cP:=hJ hb
   clear hb
   have aG:=hJ (bt cO.out cP.out)
   have aA:=hJ (BX.new aB.out aG.out)
   have hN:=aA.out.frozen 4
   have hO:=aA.out.cell 4 rfl
   have hP:=aA.out.frozen 5
   have hQ:=aA.out.cell 5 rfl
   obtain ⟨x82,cQ⟩:=nmz (World.setCell (World.setCell w81 ⟨w.heap.size+1,4,none⟩ (.int .i64 (pwX p4 q4 p5 q5))) ⟨w.heap.size+1,5,none⟩ (.int .i64 (pwY p4 q4 p5 q5)))
   have cR:=hJ (show sto w81 (w.heap.size+1) 4 [.int .i64 (pwX p4 q4 p5 q5),.int .i64 (pwY p4 q4 p5 q5)]=x82 from cQ)
   have aF:=hJ (show BX 153 x82 (w.heap.size+1) #[.int .i64 (pwX p0 q0 p1 q1),.int .i64 (pwY p0 q0 p1 q1),.int .i64 (pwX p2 q2 p3 q3),.int .i64 (pwY p2 q2 p3 q3),.int .i64 (pwX p4 q4 p5 q5),.int .i64 (pwY p4 q4 p5 q5)] by rw [←cR.out]; exact BX.put aA.out _ _)
   obtain ⟨hR,hS,hT,hU⟩:=aF.out.q4 0 1 2 3
   have hV:=aF.out.cell 4 rfl
   have hW:=aF.out.cell 5 rfl
   have hX:=aF.out.frozen 0
   have hY:=aF.out.cell 0 rfl
   have hZ:=aF.out.frozen 1
   have iA:=aF.out.cell 1 rfl
   have iB:=aF.out.frozen 2
   have iC:=aF.out.cell 2 rfl
   have iD:=aF.out.frozen 3
   have iE:=aF.out.cell 3 rfl
   have iF:=aF.out.frozen 4
   have iG:=aF.out.cell 4 rfl
   have iH:=aF.out.frozen 5
   have iI:=aF.out.cell 5 rfl
   obtain ⟨x89,cS⟩:=nmz (World.setCell (World.setCell (World.setCell (World.setCell (World.setCell (World.setCell x82 ⟨w.heap.size+1,0,none⟩ (.int .i64 (pwX p0 q0 p1 q1))) ⟨w.heap.size+1,1,none⟩ (.int .i64 (pwY p0 q0 p1 q1))) ⟨w.heap.size+1,2,none⟩ (.int .i64 (pwX p2 q2 p3 q3))) ⟨w.heap.size+1,3,none⟩ (.int .i64 (pwY p2 q2 p3 q3))) ⟨w.heap.size+1,4,none⟩ (.int .i64 (pwX p4 q4 p5 q5))) ⟨w.heap.size+1,5,none⟩ (.int .i64 (pwY p4 q4 p5 q5)))
   have cT:=hJ (show sto x82 (w.heap.size+1) 0 [.int .i64 (pwX p0 q0 p1 q1),.int .i64 (pwY p0 q0 p1 q1),.int .i64 (pwX p2 q2 p3 q3),.int .i64 (pwY p2 q2 p3 q3),.int .i64 (pwX p4 q4 p5 q5),.int .i64 (pwY p4 q4 p5 q5)]=x89 from cS)
   have iJ:=hJ (show BX 153 x89 (w.heap.size+1) #[.int .i64 (pwX p0 q0 p1 q1),.int .i64 (pwY p0 q0 p1 q1),.int .i64 (pwX p2 q2 p3 q3),.int .i64 (pwY p2 q2 p3 q3),.int .i64 (pwX p4 q4 p5 q5),.int .i64 (pwY p4 q4 p5 q5)] by rw [←cT.out]; exact BX.put aF.out _ _)
   have aH:=hJ (show Below w.heap.size w x82 by rw [←cR.out]; exact below_sto (bt aC.out cP.out) aJ.out _ _)
   have aN:=hJ (show Below w.heap.size w x89 by rw [←cT.out]; exact below_sto aH.out aJ.out _ _)
   go_wp2
   clear hN hO hP hQ cQ hR hS hT hU hV hW hX hY hZ iA iB iC iD iE iF iG iH iI cS
   exact bodyPost_ret (results_cell1 rfl _ _ _ _ _ _ _ rfl iJ.out Tryz.underlying153 rfl G3_size) rfl ⟨(pwX p0 q0 p1 q1),(pwY p0 q0 p1 q1),(pwX p2 q2 p3 q3),(pwY p2 q2 p3 q3),(pwX p4 q4 p5 q5),(pwY p4 q4 p5 q5),by rw [decide_eq_false (show ¬(pwE p0 q0 p1 q1=0∧pwE p2 q2 p3 q3=0∧pwE p4 q4 p5 q5=0) from fun h=>aI.out h.2.2)] <;> rfl,fun h=>absurd h.2.2 aI.out,aN.out⟩
  ·(try rw [show ((3:Nat):Int)=3 from rfl])
   have aQ:=hJ aB.out.lt
   obtain ⟨iK,iL,iM,iN⟩:=aB.out.q4 0 1 2 3
   have iO:=aB.out.cell 4 rfl
   have iP:=aB.out.cell 5 rfl
   have iQ:=aB.out.frozen 0
   have iR:=aB.out.cell 0 rfl
   have iS:=aB.out.frozen 1
   have iT:=aB.out.cell 1 rfl
   have iU:=aB.out.frozen 2
   have iV:=aB.out.cell 2 rfl
   have iW:=aB.out.frozen 3
   have iX:=aB.out.cell 3 rfl
   have iY:=aB.out.frozen 4
   have iZ:=aB.out.cell 4 rfl
   have jA:=aB.out.frozen 5
   have jB:=aB.out.cell 5 rfl
   obtain ⟨x96,cU⟩:=nmz (World.setCell (World.setCell (World.setCell (World.setCell (World.setCell (World.setCell wl2 ⟨w.heap.size+1,0,none⟩ (.int .i64 (pwX p0 q0 p1 q1))) ⟨w.heap.size+1,1,none⟩ (.int .i64 (pwY p0 q0 p1 q1))) ⟨w.heap.size+1,2,none⟩ (.int .i64 (pwX p2 q2 p3 q3))) ⟨w.heap.size+1,3,none⟩ (.int .i64 (pwY p2 q2 p3 q3))) ⟨w.heap.size+1,4,none⟩ (.int .i64 (pwX p4 q4 p5 q5))) ⟨w.heap.size+1,5,none⟩ (.int .i64 (pwY p4 q4 p5 q5)))
   have cV:=hJ (show sto wl2 (w.heap.size+1) 0 [.int .i64 (pwX p0 q0 p1 q1),.int .i64 (pwY p0 q0 p1 q1),.int .i64 (pwX p2 q2 p3 q3),.int .i64 (pwY p2 q2 p3 q3),.int .i64 (pwX p4 q4 p5 q5),.int .i64 (pwY p4 q4 p5 q5)]=x96 from cU)
   have jC:=hJ (show BX 153 x96 (w.heap.size+1) #[.int .i64 (pwX p0 q0 p1 q1),.int .i64 (pwY p0 q0 p1 q1),.int .i64 (pwX p2 q2 p3 q3),.int .i64 (pwY p2 q2 p3 q3),.int .i64 (pwX p4 q4 p5 q5),.int .i64 (pwY p4 q4 p5 q5)] by rw [←cV.out]; exact BX.put aB.out _ _)
   have aC:=hJ (show Below w.heap.size w x96 by rw [←cV.out]; exact below_sto aL.out aJ.out _ _)
   go_wp2
   clear iK iL iM iN iO iP iQ iR iS iT iU iV iW iX iY iZ jA jB cU
   exact bodyPost_ret (results_cell1 rfl _ _ _ _ _ _ _ rfl jC.out Tryz.underlying153 rfl G3_size) rfl ⟨(pwX p0 q0 p1 q1),(pwY p0 q0 p1 q1),(pwX p2 q2 p3 q3),(pwY p2 q2 p3 q3),(pwX p4 q4 p5 q5),(pwY p4 q4 p5 q5),by rw [decide_eq_true (show pwE p0 q0 p1 q1=0∧pwE p2 q2 p3 q3=0∧pwE p4 q4 p5 q5=0 from ⟨aK.out,aM.out,aP.out⟩)] <;> rfl,fun _=>⟨rfl,rfl,rfl,rfl,rfl,rfl⟩,aC.out⟩
theorem side_any (p0 q0 p1 q1 p2 q2 p3 q3 p4 q4 p5 q5 P0 Q0 C0 P1 Q1 C1 P2 Q2 C2 P3 Q3 C3 P4 Q4 C4 P5 Q5 C5 P6 Q6 C6:Int) (s0:Bool) (A0:Option Addr) (n0 c0:Nat) (t0:Bool) (B0:Option Addr) (m0 d0:Nat) (s1:Bool) (A1:Option Addr) (n1 c1:Nat) (t1:Bool) (B1:Option Addr) (m1 d1:Nat) (s2:Bool) (A2:Option Addr) (n2 c2:Nat) (t2:Bool) (B2:Option Addr) (m2 d2:Nat) (s3:Bool) (A3:Option Addr) (n3 c3:Nat) (t3:Bool) (B3:Option Addr) (m3 d3:Nat) (s4:Bool) (A4:Option Addr) (n4 c4:Nat) (t4:Bool) (B4:Option Addr) (m4 d4:Nat) (s5:Bool) (A5:Option Addr) (n5 c5:Nat) (t5:Bool) (B5:Option Addr) (m5 d5:Nat) (w:World) (h0:PF w s0 A0 n0 c0 t0 B0 m0 d0 p0 q0) (h1:PF w s1 A1 n1 c1 t1 B1 m1 d1 p1 q1) (h2:PF w s2 A2 n2 c2 t2 B2 m2 d2 p2 q2) (h3:PF w s3 A3 n3 c3 t3 B3 m3 d3 p3 q3) (h4:PF w s4 A4 n4 c4 t4 B4 m4 d4 p4 q4) (h5:PF w s5 A5 n5 c5 t5 B5 m5 d5 p5 q5) (f0:Fr p0 q0) (f1:Fr p1 q1) (f2:Fr p2 q2) (f3:Fr p3 q3) (f4:Fr p4 q4) (f5:Fr p5 q5) (e0:adP p2 q2 (-p0) q0=P0∧adQ p2 q2 (-p0) q0=Q0∧adC p2 q2 (-p0) q0=C0) (e1:adP p5 q5 (-p1) q1=P1∧adQ p5 q5 (-p1) q1=Q1∧adC p5 q5 (-p1) q1=C1) (e2:muP P0 Q0 P1 Q1=P2∧muQ P0 Q0 P1 Q1=Q2∧muC P0 Q0 P1 Q1=C2) (e3:adP p3 q3 (-p1) q1=P3∧adQ p3 q3 (-p1) q1=Q3∧adC p3 q3 (-p1) q1=C3) (e4:adP p4 q4 (-p0) q0=P4∧adQ p4 q4 (-p0) q0=Q4∧adC p4 q4 (-p0) q0=C4) (e5:muP P3 Q3 P4 Q4=P5∧muQ P3 Q3 P4 Q4=Q5∧muC P3 Q3 P4 Q4=C5) (e6:adP P2 Q2 (-P5) Q5=P6∧adQ P2 Q2 (-P5) Q5=Q6∧adC P2 Q2 (-P5) Q5=C6) :
  Calls Tryz.prog 31 #[.agg #[.bool s0,.slice A0 n0 c0,.bool t0,.slice B0 m0 d0,.bool s1,.slice A1 n1 c1,.bool t1,.slice B1 m1 d1],.agg #[.bool s2,.slice A2 n2 c2,.bool t2,.slice B2 m2 d2,.bool s3,.slice A3 n3 c3,.bool t3,.slice B3 m3 d3],.agg #[.bool s4,.slice A4 n4 c4,.bool t4,.slice B4 m4 d4,.bool s5,.slice A5 n5 c5,.bool t5,.slice B5 m5 d5]] w fun e w'=>e=.returned (.tuple #[.int .i64 (siV p0 q0 p1 q1 p2 q2 p3 q3 p4 q4 p5 q5 P6 (feV [C0,C1,C2,C3,C4,C5,C6])),.int .i64 (siC p0 q0 p1 q1 p2 q2 p3 q3 p4 q4 p5 q5 (feV [C0,C1,C2,C3,C4,C5,C6]))])∧Below w.heap.size w w':=by
 have aT:=hJ e0
 have aU:=hJ e1
 have aV:=hJ e2
 have aW:=hJ e3
 have aX:=hJ e4
 have aY:=hJ e5
 have aZ:=hJ e6
 clear e0 e1 e2 e3 e4 e5 e6
 have bD:=hJ h0
 have aF:=hJ f0
 have bE:=hJ h1
 have aG:=hJ f1
 have bF:=hJ h2
 have aJ:=hJ f2
 have bG:=hJ h3
 have aK:=hJ f3
 have bH:=hJ h4
 have aL:=hJ f4
 have bJ:=hJ h5
 have aM:=hJ f5
 clear h0 f0 h1 f1 h2 f2 h3 f3 h4 f4 h5 f5
 have bU:=hJ (show Fr P0 Q0 by rw [←aT.out.1,←aT.out.2.1]; exact fr_ad aJ.out (fr_neg aF.out))
 have bV:=hJ (show Fr P1 Q1 by rw [←aU.out.1,←aU.out.2.1]; exact fr_ad aM.out (fr_neg aG.out))
 have bW:=hJ (show Fr P2 Q2 by rw [←aV.out.1,←aV.out.2.1]; exact fr_mu bU.out bV.out)
 have bX:=hJ (show Fr P3 Q3 by rw [←aW.out.1,←aW.out.2.1]; exact fr_ad aK.out (fr_neg aG.out))
 have bY:=hJ (show Fr P4 Q4 by rw [←aX.out.1,←aX.out.2.1]; exact fr_ad aL.out (fr_neg aF.out))
 have bZ:=hJ (show Fr P5 Q5 by rw [←aY.out.1,←aY.out.2.1]; exact fr_mu bX.out bY.out)
 have cA:=hJ (show Fr P6 Q6 by rw [←aZ.out.1,←aZ.out.2.1]; exact fr_ad bW.out (fr_neg bZ.out))
 obtain ⟨CC,hcc⟩:=nmz ((feV [C0,C1,C2,C3,C4,C5,C6]))
 obtain ⟨PP,hpp⟩:=nmz (feP (feV [C0,C1,C2,C3,C4,C5,C6]) P6)
 obtain ⟨QQ,hqq⟩:=nmz (feQ (feV [C0,C1,C2,C3,C4,C5,C6]) Q6)
 have cB:=hJ (show Fr PP QQ by
  rw [←hpp,←hqq,feP,feQ]
  by_cases h:(feV [C0,C1,C2,C3,C4,C5,C6])=0
  ·rw [if_pos h,if_pos h]; exact cA.out
  rw [if_neg h,if_neg h]; exact fr_zero)
 have bK:=hJ hcc
 have bL:=hJ hpp
 have cC:=hJ hqq
 clear hcc hpp hqq
 by_cases hw:pwE p0 q0 p1 q1=0∧pwE p2 q2 p3 q3=0∧pwE p4 q4 p5 q5=0
 ·have aA:=hJ hw
  clear hw
  obtain ⟨x1,aH⟩:=nmz (((w.alloc (.cells #[.bool s0,.slice A0 n0 c0,.bool t0,.slice B0 m0 d0,.bool s1,.slice A1 n1 c1,.bool t1,.slice B1 m1 d1] 29)).alloc (.cells #[.bool s2,.slice A2 n2 c2,.bool t2,.slice B2 m2 d2,.bool s3,.slice A3 n3 c3,.bool t3,.slice B3 m3 d3] 29)).alloc (.cells #[.bool s4,.slice A4 n4 c4,.bool t4,.slice B4 m4 d4,.bool s5,.slice A5 n5 c5,.bool t5,.slice B5 m5 d5] 29))
  have aC:=hJ (show Below w.heap.size w x1 by rw [←aH]; exact ((((Below.refl _ _).alloc (Nat.le_refl _) _).alloc (by simp only [World.size_alloc]; omega) _).alloc (by simp only [World.size_alloc]; omega) _))
  have cD:=hJ (show BX 29 x1 w.heap.size #[.bool s0,.slice A0 n0 c0,.bool t0,.slice B0 m0 d0,.bool s1,.slice A1 n1 c1,.bool t1,.slice B1 m1 d1] by rw [←aH]; exact (((BX.at rfl).alloc _).alloc _))
  have cE:=hJ (show BX 29 x1 (w.heap.size+1) #[.bool s2,.slice A2 n2 c2,.bool t2,.slice B2 m2 d2,.bool s3,.slice A3 n3 c3,.bool t3,.slice B3 m3 d3] by rw [←aH]; exact ((BX.at (by simp only [World.size_alloc])).alloc _))
  have cF:=hJ (show BX 29 x1 (w.heap.size+2) #[.bool s4,.slice A4 n4 c4,.bool t4,.slice B4 m4 d4,.bool s5,.slice A5 n5 c5,.bool t5,.slice B5 m5 d5] by rw [←aH]; exact (BX.at (by simp only [World.size_alloc])))
  obtain ⟨cG,cH,cI,cJ,cK,cL,cM,cN⟩:=cD.out.q8 0 1 2 3 4 5 6 7
  obtain ⟨cO,cP,cQ,cR,cS,cT,cU,cV⟩:=cE.out.q8 0 1 2 3 4 5 6 7
  obtain ⟨cW,cX,cY,cZ,dA,dB,dD,dE⟩:=cF.out.q8 0 1 2 3 4 5 6 7
  have aN:=hJ (PF.new bD.out aC.out)
  have aO:=hJ (PF.new bE.out aC.out)
  have aP:=hJ (PF.new bF.out aC.out)
  have aQ:=hJ (PF.new bG.out aC.out)
  have aR:=hJ (PF.new bH.out aC.out)
  have aS:=hJ (PF.new bJ.out aC.out)
  go_enter Tryz.func31,Tryz.ntmps31
  go_wp2_with fail
  clear aH cG cH cI cJ cK cL cM cN cO cP cQ cR cS cT cU cV cW cX cY cZ dA dB dD dE
  refine (og3_any p0 q0 p1 q1 p2 q2 p3 q3 p4 q4 p5 q5 s0 A0 n0 c0 t0 B0 m0 d0 s1 A1 n1 c1 t1 B1 m1 d1 s2 A2 n2 c2 t2 B2 m2 d2 s3 A3 n3 c3 t3 B3 m3 d3 s4 A4 n4 c4 t4 B4 m4 d4 s5 A5 n5 c5 t5 B5 m5 d5 x1 aN.out aO.out aP.out aQ.out aR.out aS.out aF.out aG.out aJ.out aK.out aL.out aM.out).mono ?_
  rw [decide_eq_true aA.out]
  rintro e w26 ⟨l0,l1,l2,l3,l4,l5,rfl,hl,hb⟩
  have dF:=hJ hb
  clear hb
  have bM:=hJ hl
  clear hl
  obtain ⟨x27,bA⟩:=nmz (w26.alloc (.cells #[.int .i64 l0,.int .i64 l1,.int .i64 l2,.int .i64 l3,.int .i64 l4,.int .i64 l5] 153))
  have dG:=hJ (show Below w26.heap.size w26 x27 by rw [←bA]; exact ((Below.refl _ _).alloc (Nat.le_refl _) _))
  have bB:=hJ (show BX 153 x27 w26.heap.size #[.int .i64 l0,.int .i64 l1,.int .i64 l2,.int .i64 l3,.int .i64 l4,.int .i64 l5] by rw [←bA]; exact (BX.at rfl))
  have aE:=hJ (bM.out aA.out)
  obtain rfl:p0=l0:=((aE.out.1).trans (pw_zero aA.out.1).2.1.1).symm
  obtain rfl:p1=l1:=((aE.out.2.1).trans (pw_zero aA.out.1).2.1.2).symm
  obtain rfl:p2=l2:=((aE.out.2.2.1).trans (pw_zero aA.out.2.1).2.1.1).symm
  obtain rfl:p3=l3:=((aE.out.2.2.2.1).trans (pw_zero aA.out.2.1).2.1.2).symm
  obtain rfl:p4=l4:=((aE.out.2.2.2.2.1).trans (pw_zero aA.out.2.2).2.1.1).symm
  obtain rfl:p5=l5:=((aE.out.2.2.2.2.2).trans (pw_zero aA.out.2.2).2.1.2).symm
  have dH:=hJ (show G3 p0 p1 p2 p3 p4 p5 from g3_ok (vd_nk (pw_zero aA.out.1).2.2) (vd_nk (pw_zero aA.out.2.1).2.2) (vd_nk (pw_zero aA.out.2.2).2.2))
  obtain ⟨dI,dJ⟩:=bB.out.c2 0 1 rfl rfl
  obtain ⟨dK,dL⟩:=bB.out.c2 2 3 rfl rfl
  obtain ⟨dM,dN⟩:=bB.out.c2 4 5 rfl rfl
  go_wp2_with fail
  clear bA dI dJ dK dL dM dN
  refine (gridside_any p0 p1 p2 p3 p4 p5 x27 dH.out).mono ?_
  rintro e w34 ⟨rfl,hb⟩
  have dO:=hJ hb
  clear hb
  have dP:=hJ (bt (bt (bt aC.out dF.out) dG.out) dO.out)
  go_wp2
  go_ret2
  exact ⟨by rw [siV,siC,if_pos aA.out,if_pos aA.out] <;> rfl,dP.out⟩
 ·have aA:=hJ hw
  clear hw
  obtain ⟨x35,aI⟩:=nmz (((w.alloc (.cells #[.bool s0,.slice A0 n0 c0,.bool t0,.slice B0 m0 d0,.bool s1,.slice A1 n1 c1,.bool t1,.slice B1 m1 d1] 29)).alloc (.cells #[.bool s2,.slice A2 n2 c2,.bool t2,.slice B2 m2 d2,.bool s3,.slice A3 n3 c3,.bool t3,.slice B3 m3 d3] 29)).alloc (.cells #[.bool s4,.slice A4 n4 c4,.bool t4,.slice B4 m4 d4,.bool s5,.slice A5 n5 c5,.bool t5,.slice B5 m5 d5] 29))
  have aD:=hJ (show Below w.heap.size w x35 by rw [←aI]; exact ((((Below.refl _ _).alloc (Nat.le_refl _) _).alloc (by simp only [World.size_alloc]; omega) _).alloc (by simp only [World.size_alloc]; omega) _))
  have bN:=hJ (show BX 29 x35 w.heap.size #[.bool s0,.slice A0 n0 c0,.bool t0,.slice B0 m0 d0,.bool s1,.slice A1 n1 c1,.bool t1,.slice B1 m1 d1] by rw [←aI]; exact (((BX.at rfl).alloc _).alloc _))
  have bO:=hJ (show BX 29 x35 (w.heap.size+1) #[.bool s2,.slice A2 n2 c2,.bool t2,.slice B2 m2 d2,.bool s3,.slice A3 n3 c3,.bool t3,.slice B3 m3 d3] by rw [←aI]; exact ((BX.at (by simp only [World.size_alloc])).alloc _))
  have bP:=hJ (show BX 29 x35 (w.heap.size+2) #[.bool s4,.slice A4 n4 c4,.bool t4,.slice B4 m4 d4,.bool s5,.slice A5 n5 c5,.bool t5,.slice B5 m5 d5] by rw [←aI]; exact (BX.at (by simp only [World.size_alloc])))
  obtain ⟨dQ,dR,dS,dT,dU,dW,dX,dY⟩:=bN.out.q8 0 1 2 3 4 5 6 7
  obtain ⟨dZ,eA,eB,eC,eD,eE,eF,eG⟩:=bO.out.q8 0 1 2 3 4 5 6 7
  obtain ⟨eH,eI,eJ,eK,eL,eM,eN,eO⟩:=bP.out.q8 0 1 2 3 4 5 6 7
  have aN:=hJ (PF.new bD.out aD.out)
  have aO:=hJ (PF.new bE.out aD.out)
  have aP:=hJ (PF.new bF.out aD.out)
  have aQ:=hJ (PF.new bG.out aD.out)
  have aR:=hJ (PF.new bH.out aD.out)
  have aS:=hJ (PF.new bJ.out aD.out)
  go_enter Tryz.func31,Tryz.ntmps31
  go_wp2_with fail
  clear aI dQ dR dS dT dU dW dX dY dZ eA eB eC eD eE eF eG eH eI eJ eK eL eM eN eO
  refine (og3_any p0 q0 p1 q1 p2 q2 p3 q3 p4 q4 p5 q5 s0 A0 n0 c0 t0 B0 m0 d0 s1 A1 n1 c1 t1 B1 m1 d1 s2 A2 n2 c2 t2 B2 m2 d2 s3 A3 n3 c3 t3 B3 m3 d3 s4 A4 n4 c4 t4 B4 m4 d4 s5 A5 n5 c5 t5 B5 m5 d5 x35 aN.out aO.out aP.out aQ.out aR.out aS.out aF.out aG.out aJ.out aK.out aL.out aM.out).mono ?_
  rw [decide_eq_false aA.out]
  rintro e w60 ⟨l0,l1,l2,l3,l4,l5,rfl,hl,hb⟩
  have bQ:=hJ hb
  clear hb
  have bM:=hJ hl
  clear hl
  obtain ⟨x61,bR⟩:=nmz (w60.alloc (.cells #[.int .i64 l0,.int .i64 l1,.int .i64 l2,.int .i64 l3,.int .i64 l4,.int .i64 l5] 153))
  have bS:=hJ (show Below w60.heap.size w60 x61 by rw [←bR]; exact ((Below.refl _ _).alloc (Nat.le_refl _) _))
  have aB:=hJ (bt bQ.out bS.out)
  have eP:=hJ (BX.new bN.out aB.out)
  obtain ⟨eQ,eR,eS,eT,eU,eV,eW,eX⟩:=eP.out.q8 0 1 2 3 4 5 6 7
  have eY:=hJ (BX.new bO.out aB.out)
  obtain ⟨eZ,fA,fB,fC,fD,fE,fF,fG⟩:=eY.out.q8 0 1 2 3 4 5 6 7
  have fH:=hJ (BX.new bP.out aB.out)
  obtain ⟨fI,fJ,fK,fL,fM,fN,fO,fP⟩:=fH.out.q8 0 1 2 3 4 5 6 7
  have fQ:=hJ (PF.new aN.out aB.out)
  have fR:=hJ (PF.new aO.out aB.out)
  have fS:=hJ (PF.new aP.out aB.out)
  have fT:=hJ (PF.new aQ.out aB.out)
  have fU:=hJ (PF.new aR.out aB.out)
  have fV:=hJ (PF.new aS.out aB.out)
  go_wp2_with fail
  clear bR eQ eR eS eT eU eV eW eX eZ fA fB fC fD fE fF fG fI fJ fK fL fM fN fO fP
  refine (area_any p0 q0 p1 q1 p2 q2 p3 q3 p4 q4 p5 q5 P0 Q0 C0 P1 Q1 C1 P2 Q2 C2 P3 Q3 C3 P4 Q4 C4 P5 Q5 C5 P6 Q6 C6 s0 A0 n0 c0 t0 B0 m0 d0 s1 A1 n1 c1 t1 B1 m1 d1 s2 A2 n2 c2 t2 B2 m2 d2 s3 A3 n3 c3 t3 B3 m3 d3 s4 A4 n4 c4 t4 B4 m4 d4 s5 A5 n5 c5 t5 B5 m5 d5 x61 fQ.out fR.out fS.out fT.out fU.out fV.out aF.out aG.out aJ.out aK.out aL.out aM.out aT.out aU.out aV.out aW.out aX.out aY.out aZ.out).mono ?_
  rw [bL.out,cC.out,bK.out]
  rintro e w86 ⟨s11,A11,n11,c11,t11,B11,m11,d11,rfl,hr11,hb⟩
  have fW:=hJ hb
  have fX:=hJ hr11
  clear hb hr11
  obtain ⟨x87,bC⟩:=nmz (w86.alloc (.cells #[.bool s11,.slice A11 n11 c11,.bool t11,.slice B11 m11 d11] 27))
  have bT:=hJ (show Below w86.heap.size w86 x87 by rw [←bC]; exact ((Below.refl _ _).alloc (Nat.le_refl _) _))
  have fY:=hJ (show BX 27 x87 w86.heap.size #[.bool s11,.slice A11 n11 c11,.bool t11,.slice B11 m11 d11] by rw [←bC]; exact (BX.at rfl))
  obtain ⟨fZ,gA,gB,gC⟩:=fY.out.c4 0 1 2 3 rfl rfl rfl rfl
  have gD:=hJ (PF.new fX.out bT.out)
  go_wp2_with fail
  clear bC fZ gA gB gC
  refine (fsign_any PP QQ s11 t11 A11 B11 n11 c11 m11 d11 x87 gD.out cB.out.2.1).mono ?_
  rintro e w92 ⟨rfl,hb⟩
  have gE:=hJ hb
  clear hb
  have gF:=hJ (bt (bt (bt (bt (bt aD.out bQ.out) bS.out) fW.out) bT.out) gE.out)
  go_wp2
  go_ret2
  exact ⟨by rw [siV,siC,if_neg aA.out,if_neg aA.out,bL.out,bK.out] <;> rfl,gF.out⟩
theorem b2_m {x y:Int} {j k:Nat} (hx:x.natAbs < B2 j) (hy:y.natAbs < B2 k):(x*y).natAbs < B2 (j+k):=by
 rw [Int.natAbs_mul]
 unfold B2 at *
 rw [Nat.pow_add]
 exact Nat.mul_lt_mul'' hx hy
theorem b2_a {x y:Int} {k:Nat} (hx:x.natAbs < B2 k) (hy:y.natAbs < B2 k):(x+y).natAbs < B2 (k+1):=by
 unfold B2 at *
 rw [Nat.pow_succ]
 have:=Int.natAbs_add_le x y
 omega
theorem cmp_prod' (a b:Int):cmpI (a*b) 0=cmpI a 0*cmpI b 0:=by
 rcases Int.lt_trichotomy a 0 with h | rfl | h <;> rcases Int.lt_trichotomy b 0 with g | rfl | g
 ·have:=Int.mul_pos_of_neg_of_neg h g; unfold cmpI; rw [if_neg (by omega),if_pos this,if_pos h,if_pos g]; rfl
 ·simp [cmpI]
 ·have:=Int.mul_neg_of_neg_of_pos h g; unfold cmpI; rw [if_pos this,if_pos h,if_neg (by omega),if_pos g]; rfl
 ·simp [cmpI]
 ·simp [cmpI]
 ·simp [cmpI]
 ·have:=Int.mul_neg_of_pos_of_neg h g; unfold cmpI; rw [if_pos this,if_neg (by omega),if_pos h,if_pos g]; rfl
 ·simp [cmpI]
 ·have:=Int.mul_pos h g; unfold cmpI; rw [if_neg (by omega),if_pos this,if_neg (by omega),if_pos h,if_neg (by omega),if_pos g]; rfl
theorem sd_sub' (ax ay bx by' cx cy:Int):sdV ax ay bx by' cx cy=cmpI ((bx - ax)*(cy - ay) - (by' - ay)*(cx - ax)) 0:=by unfold sdV cmpI; split <;> split <;> (try split) <;> (try split) <;> omega
/-- A fraction in lowest terms, of a size, that is the quotient of two integers. -/
def Vl (k:Nat) (p q x d:Int):Prop:=Low p q∧p.natAbs < B2 k∧q.natAbs < B2 k∧d≠0∧p*d=x*q
theorem b2_lim {k:Nat} {x:Int} (h:x.natAbs < B2 k) (hk:k≤16384):x.natAbs < lim:=by
 rw [lim_two]
 exact B2.le h hk
theorem b2_div {k:Nat} {x g:Int} (h:x.natAbs < B2 k):(x / g).natAbs < B2 k:=Nat.lt_of_le_of_lt (Int.natAbs_ediv_le_natAbs x g) h
theorem vl_add {k l:Nat} {p q x d r s y f:Int} (h:Vl k p q x d) (h':Vl l r s y f) (hk:k+l+1≤16384):adC p q r s=0∧Vl (k+l+1) (adP p q r s) (adQ p q r s) (x*f+y*d) (d*f):=by
 obtain ⟨h1,h2,h3,h4,h5⟩:=h
 obtain ⟨g1,g2,g3,g4,g5⟩:=h'
 have b1:(p*(s / adG q s)).natAbs < B2 (k+l):=b2_m h2 (b2_div g3)
 have b2:(r*(q / adG q s)).natAbs < B2 (k+l):=by rw [Nat.add_comm]; exact b2_m g2 (b2_div h3)
 have b3:(adN p q r s).natAbs < B2 (k+l+1):=b2_a b1 b2
 have b4:(adD q s).natAbs < B2 (k+l):=b2_m (b2_div h3) g3
 have hK:adK p q r s:=⟨b2_lim b1 (by omega),b2_lim b2 (by omega),b2_lim b3 hk,b2_lim b4 (by omega)⟩
 obtain ⟨e1,e2⟩:=ad_low h1 g1 hK
 refine ⟨if_pos hK,e1,?_,?_,Int.mul_ne_zero h4 g4,?_⟩
 ·rw [adP,if_pos hK]; exact b2_div b3
 ·rw [adQ,if_pos hK]; exact b2_div (B2.le b4 (by omega))
 ·have hq:=h1.1
  have hs:=g1.1
  refine Int.eq_of_mul_eq_mul_right (Int.mul_ne_zero (show q≠0 by omega) (show s≠0 by omega)) ?_
  obtain ⟨P,hP⟩:=nmz (adP p q r s)
  obtain ⟨Q,hQ⟩:=nmz (adQ p q r s)
  rw [hP,hQ] at e2 ⊢
  clear b1 b2 b3 b4 hK e1 h1 g1 hP hQ h2 h3 g2 g3 h4 g4 hq hs hk
  grind
theorem vl_mul {k l:Nat} {p q x d r s y f:Int} (h:Vl k p q x d) (h':Vl l r s y f) (hk:k+l≤16384):muC p q r s=0∧Vl (k+l) (muP p q r s) (muQ p q r s) (x*y) (d*f):=by
 obtain ⟨h1,h2,h3,h4,h5⟩:=h
 obtain ⟨g1,g2,g3,g4,g5⟩:=h'
 have b1:(muN p q r s).natAbs < B2 (k+l):=b2_m (b2_div h2) (b2_div g2)
 have b2:(muD p q r s).natAbs < B2 (k+l):=b2_m (b2_div h3) (b2_div g3)
 have hK:muK p q r s:=⟨b2_lim b1 hk,b2_lim b2 hk⟩
 obtain ⟨e1,e2⟩:=mu_low h1 g1 hK
 refine ⟨if_pos hK,e1,?_,?_,Int.mul_ne_zero h4 g4,?_⟩
 ·rw [muP,if_pos hK]; exact b1
 ·rw [muQ,if_pos hK]; exact b2
 ·have hq:=h1.1
  have hs:=g1.1
  refine Int.eq_of_mul_eq_mul_right (Int.mul_ne_zero (show q≠0 by omega) (show s≠0 by omega)) ?_
  obtain ⟨P,hP⟩:=nmz (muP p q r s)
  obtain ⟨Q,hQ⟩:=nmz (muQ p q r s)
  rw [hP,hQ] at e2 ⊢
  clear b1 b2 hK e1 h1 g1 hP hQ h2 h3 g2 g3 h4 g4 hq hs hk
  grind
theorem vl_neg {k:Nat} {p q x d:Int} (h:Vl k p q x d):Vl k (-p) q (-x) d:=by
 obtain ⟨h1,h2,h3,h4,h5⟩:=h
 refine ⟨⟨h1.1,by rw [Int.natAbs_neg]; exact h1.2⟩,by rw [Int.natAbs_neg]; exact h2,h3,h4,?_⟩
 rw [Int.neg_mul,Int.neg_mul,h5]
/-- Twice the area of three points with numerators and denominators. -/
def arN (ax ay da bx by' db cx cy dc:Int):Int:=((bx*da - ax*db)*(cy*da - ay*dc) - (by'*da - ay*db)*(cx*da - ax*dc))
theorem cm_pos {c a:Int} (hc:0 < c):cmpI (c*a) 0=cmpI a 0:=by
 have h:=cmp_prod' c a
 rw [h,show cmpI c 0=1 from by unfold cmpI; rw [if_neg (by omega),if_pos hc],Int.one_mul]
theorem arN_int (a0 a1 b0 b1 c0 c1 da db dc:Int):arN (a0*da) (a1*da) da (b0*db) (b1*db) db (c0*dc) (c1*dc) dc=(da*da*db*dc)*((b0 - a0)*(c1 - a1) - (b1 - a1)*(c0 - a0)):=by unfold arN; grind
theorem ar_big {n0 n1 n3 n4 da db dc:Int}:n0*n1*(db*da*(dc*da)) + -(n3*n4)*(db*da*(dc*da))=(da*da*db*dc)*(n0*n1 - n3*n4):=by grind
theorem ar_den {da db dc:Int}:db*da*(dc*da)*(db*da*(dc*da))=(da*da*db*dc)*(da*da*db*dc):=by grind
theorem area_small {ax ay da bx by' db cx cy dc:Int} {p0 q0 p1 q1 p2 q2 p3 q3 p4 q4 p5 q5 P0 Q0 C0 P1 Q1 C1 P2 Q2 C2 P3 Q3 C3 P4 Q4 C4 P5 Q5 C5 P6 Q6 C6:Int} (hd:0 < da∧0 < db∧0 < dc) (v0:Vl 64 p0 q0 ax da) (v1:Vl 64 p1 q1 ay da) (v2:Vl 64 p2 q2 bx db) (v3:Vl 64 p3 q3 by' db) (v4:Vl 64 p4 q4 cx dc) (v5:Vl 64 p5 q5 cy dc) (e0:adP p2 q2 (-p0) q0=P0∧adQ p2 q2 (-p0) q0=Q0∧adC p2 q2 (-p0) q0=C0) (e1:adP p5 q5 (-p1) q1=P1∧adQ p5 q5 (-p1) q1=Q1∧adC p5 q5 (-p1) q1=C1) (e2:muP P0 Q0 P1 Q1=P2∧muQ P0 Q0 P1 Q1=Q2∧muC P0 Q0 P1 Q1=C2) (e3:adP p3 q3 (-p1) q1=P3∧adQ p3 q3 (-p1) q1=Q3∧adC p3 q3 (-p1) q1=C3) (e4:adP p4 q4 (-p0) q0=P4∧adQ p4 q4 (-p0) q0=Q4∧adC p4 q4 (-p0) q0=C4) (e5:muP P3 Q3 P4 Q4=P5∧muQ P3 Q3 P4 Q4=Q5∧muC P3 Q3 P4 Q4=C5) (e6:adP P2 Q2 (-P5) Q5=P6∧adQ P2 Q2 (-P5) Q5=Q6∧adC P2 Q2 (-P5) Q5=C6) :
  (feV [C0,C1,C2,C3,C4,C5,C6])=0∧Low P6 Q6∧P6*(da*da*db*dc)=arN ax ay da bx by' db cx cy dc*Q6∧P6.natAbs < B2 517∧Q6.natAbs < B2 517:=by
 have s0:=vl_add v2 (vl_neg v0) (by decide)
 have s1:=vl_add v5 (vl_neg v1) (by decide)
 rw [e0.1,e0.2.1,e0.2.2] at s0
 rw [e1.1,e1.2.1,e1.2.2] at s1
 have s2:=vl_mul s0.2 s1.2 (by decide)
 rw [e2.1,e2.2.1,e2.2.2] at s2
 have s3:=vl_add v3 (vl_neg v1) (by decide)
 have s4:=vl_add v4 (vl_neg v0) (by decide)
 rw [e3.1,e3.2.1,e3.2.2] at s3
 rw [e4.1,e4.2.1,e4.2.2] at s4
 have s5:=vl_mul s3.2 s4.2 (by decide)
 rw [e5.1,e5.2.1,e5.2.2] at s5
 have s6:=vl_add s2.2 (vl_neg s5.2) (by decide)
 rw [e6.1,e6.2.1,e6.2.2] at s6
 obtain ⟨c6,h1,h2,h3,h4,h5⟩:=s6
 refine ⟨?_,h1,?_,B2.le h2 (by decide),B2.le h3 (by decide)⟩
 ·rw [s0.1,s1.1,s2.1,s3.1,s4.1,s5.1,c6]; rfl
 ·have hD:0 < (da*da*db*dc):=Int.mul_pos (Int.mul_pos (Int.mul_pos hd.1 hd.1) hd.2.1) hd.2.2
  rw [ar_big,ar_den] at h5
  have hN:(bx*da + -ax*db)*(cy*da + -ay*dc) - (by'*da + -ay*db)*(cx*da + -ax*dc)=arN ax ay da bx by' db cx cy dc:=by
   unfold arN
   simp only [Int.neg_mul,←Int.sub_eq_add_neg]
  rw [hN] at h5
  refine Int.eq_of_mul_eq_mul_right (show (da*da*db*dc)≠0 by omega) ?_
  obtain ⟨D,hDD⟩:=nmz ((da*da*db*dc))
  obtain ⟨N,hNN⟩:=nmz (arN ax ay da bx by' db cx cy dc)
  rw [hDD,hNN] at h5 ⊢
  clear s0 s1 s2 s3 s4 s5 h1 h2 h3 h4 hN hD hDD hNN e0 e1 e2 e3 e4 e5 e6 v0 v1 v2 v3 v4 v5
  grind
theorem sgn_small {P Q D N:Int} (hq:0 < Q) (hD:0 < D) (h:P*D=N*Q):cmpI P 0=cmpI N 0:=by
 rw [←cm_pos (a:=P) hD,←cm_pos (a:=N) hq,Int.mul_comm D P,Int.mul_comm Q N,h]
theorem side_val {ax ay da bx by' db cx cy dc:Int} {p0 q0 p1 q1 p2 q2 p3 q3 p4 q4 p5 q5 P0 Q0 C0 P1 Q1 C1 P2 Q2 C2 P3 Q3 C3 P4 Q4 C4 P5 Q5 C5 P6 Q6 C6:Int} (hd:0 < da∧0 < db∧0 < dc) (v0:Vl 64 p0 q0 ax da) (v1:Vl 64 p1 q1 ay da) (v2:Vl 64 p2 q2 bx db) (v3:Vl 64 p3 q3 by' db) (v4:Vl 64 p4 q4 cx dc) (v5:Vl 64 p5 q5 cy dc) (e0:adP p2 q2 (-p0) q0=P0∧adQ p2 q2 (-p0) q0=Q0∧adC p2 q2 (-p0) q0=C0) (e1:adP p5 q5 (-p1) q1=P1∧adQ p5 q5 (-p1) q1=Q1∧adC p5 q5 (-p1) q1=C1) (e2:muP P0 Q0 P1 Q1=P2∧muQ P0 Q0 P1 Q1=Q2∧muC P0 Q0 P1 Q1=C2) (e3:adP p3 q3 (-p1) q1=P3∧adQ p3 q3 (-p1) q1=Q3∧adC p3 q3 (-p1) q1=C3) (e4:adP p4 q4 (-p0) q0=P4∧adQ p4 q4 (-p0) q0=Q4∧adC p4 q4 (-p0) q0=C4) (e5:muP P3 Q3 P4 Q4=P5∧muQ P3 Q3 P4 Q4=Q5∧muC P3 Q3 P4 Q4=C5) (e6:adP P2 Q2 (-P5) Q5=P6∧adQ P2 Q2 (-P5) Q5=Q6∧adC P2 Q2 (-P5) Q5=C6) :
  siV p0 q0 p1 q1 p2 q2 p3 q3 p4 q4 p5 q5 P6 (feV [C0,C1,C2,C3,C4,C5,C6])=cmpI (arN ax ay da bx by' db cx cy dc) 0∧siC p0 q0 p1 q1 p2 q2 p3 q3 p4 q4 p5 q5 (feV [C0,C1,C2,C3,C4,C5,C6])=0:=by
 obtain ⟨h1,h2,h3,_⟩:=area_small hd v0 v1 v2 v3 v4 v5 e0 e1 e2 e3 e4 e5 e6
 have hD:0 < (da*da*db*dc):=Int.mul_pos (Int.mul_pos (Int.mul_pos hd.1 hd.1) hd.2.1) hd.2.2
 rw [h1]
 unfold siV siC
 by_cases hw:pwE p0 q0 p1 q1=0∧pwE p2 q2 p3 q3=0∧pwE p4 q4 p5 q5=0
 ·rw [if_pos hw,if_pos hw]
  obtain ⟨⟨a1,a2⟩,_⟩:=pw_zero hw.1
  obtain ⟨⟨a3,a4⟩,_⟩:=pw_zero hw.2.1
  obtain ⟨⟨a5,a6⟩,_⟩:=pw_zero hw.2.2
  subst a1 a2 a3 a4 a5 a6
  have z0:=v0.2.2.2.2
  have z1:=v1.2.2.2.2
  have z2:=v2.2.2.2.2
  have z3:=v3.2.2.2.2
  have z4:=v4.2.2.2.2
  have z5:=v5.2.2.2.2
  rw [Int.mul_one] at z0 z1 z2 z3 z4 z5
  subst z0 z1 z2 z3 z4 z5
  rw [arN_int,cm_pos hD,sd_sub']
  exact ⟨rfl,rfl⟩
 ·rw [if_neg hw,if_neg hw]
  exact ⟨sgn_small h2.1 hD h3,rfl⟩
end Go.Proofs.YteggneaefggbmaaGreat
