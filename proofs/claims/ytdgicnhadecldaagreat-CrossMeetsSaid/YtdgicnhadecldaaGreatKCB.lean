/- Contracts of package cross: crossing. Conditions: as each statement has them. -/
import Derived.Test.YtdgicnhadecldaaGreatKAE
import Derived.Test.YtdgicnhadecldaaGreatKB2
import Derived.Test.YtdgicnhadecldaaGreatKB5
import Derived.Test.YtdgicnhadecldaaGreatKCA
import Derived.Test.YtdgicnhadecldaaGreatKCC
import Derived.Test.YtdgicnhadecldaaGreatKEA
import Derived.Test.YtdgicnhadecldaaGreatKEV
import Derived.Test.YtdgicnhadecldaaGreatKEZ
import Derived.Test.YtdgicnhadecldaaGreatKFD
import Derived.Test.YtdgicnhadecldaaGreatKFG
import Derived.Test.YtdgicnhadecldaaGreatKFI
import Derived.Test.YtdgicnhadecldaaGreatKPF
import Derived.Test.YtdgicnhadecldaaGreatKRG
namespace Go.Proofs.YtdgicnhadecldaaGreat
open Go.RowKit
attribute [local go_sem ↓] Go.wp_at_zero Go.wp_at_succ
set_option linter.unusedVariables false
set_option linter.unusedSimpArgs false
/-- The part of the way at which two segments cross. -/
def crT (n m:Int):Int:=dvP n 1 (adP n 1 (-m) 1) (adQ n 1 (-m) 1)
def crU (n m:Int):Int:=dvQ n 1 (adP n 1 (-m) 1) (adQ n 1 (-m) 1)
theorem aN_fr {ax ay bx by' cx cy:Int} (h0:vdP (ax,ay)=0) (h1:vdP (bx,by')=0) (h2:vdP (cx,cy)=0):Fr (aN ax ay bx by' cx cy) 1:=⟨⟨by decide,Nat.gcd_one_right _⟩,b2_lim (aN_b2 h0 h1 h2) (by decide),i64_lim (x:=1) (by decide)⟩
set_option maxRecDepth 100000 in
set_option maxHeartbeats 12800000 in
theorem crossing_any (ax ay bx by' cx cy dx dy:Int) (w:World) (ha:(vdP (ax,ay)=0∧vdP (bx,by')=0)) (hb:(vdP (cx,cy)=0∧vdP (dx,dy)=0)) :
  Calls Tryz.prog 78 #[.agg #[.int .i64 ax,.int .i64 ay,.int .i64 bx,.int .i64 by'],.agg #[.int .i64 cx,.int .i64 cy,.int .i64 dx,.int .i64 dy]] w (RetTw (owP ax 1 bx 1 (crT (aN cx cy dx dy ax ay) (aN cx cy dx dy bx by')) (crU (aN cx cy dx dy ax ay) (aN cx cy dx dy bx by'))) (owQ ax 1 bx 1 (crT (aN cx cy dx dy ax ay) (aN cx cy dx dy bx by')) (crU (aN cx cy dx dy ax ay) (aN cx cy dx dy bx by'))) (owP ay 1 by' 1 (crT (aN cx cy dx dy ax ay) (aN cx cy dx dy bx by')) (crU (aN cx cy dx dy ax ay) (aN cx cy dx dy bx by'))) (owQ ay 1 by' 1 (crT (aN cx cy dx dy ax ay) (aN cx cy dx dy bx by')) (crU (aN cx cy dx dy ax ay) (aN cx cy dx dy bx by'))) w):=by
 have HA:=hJ ha
 have HB:=hJ hb
 have aY:=hJ (And.intro (vd_wf ha.1) (vd_wf ha.2))
 have bP:=hJ (And.intro (vd_wf hb.1) (vd_wf hb.2))
 clear ha hb
 obtain ⟨n1,hn1⟩:=nmz (aN cx cy dx dy ax ay)
 obtain ⟨n2,hn2⟩:=nmz (aN cx cy dx dy bx by')
 have cL:=hJ hn1
 have cM:=hJ hn2
 have aZ:=hJ (show Fr n1 1 by rw [←hn1]; exact aN_fr HB.out.1 HB.out.2 HA.out.1)
 have bQ:=hJ (show Fr n2 1 by rw [←hn2]; exact aN_fr HB.out.1 HB.out.2 HA.out.2)
 clear hn1 hn2
 obtain ⟨x1,bJ⟩:=nmz (((w.alloc (.cells #[.int .i64 ax,.int .i64 ay,.int .i64 bx,.int .i64 by'] 25)).alloc (.cells #[.int .i64 cx,.int .i64 cy,.int .i64 dx,.int .i64 dy] 25)).alloc (.cells #[.bool false,.slice none 0 0,.bool false,.slice none 0 0,.bool false,.slice none 0 0,.bool false,.slice none 0 0] 37))
 have dX:=hJ (show Below w.heap.size w x1 by rw [←bJ]; exact ((((Below.refl _ _).alloc (Nat.le_refl _) _).alloc (by simp only [World.size_alloc]; omega) _).alloc (by simp only [World.size_alloc]; omega) _))
 have bR:=hJ (show BX 25 x1 w.heap.size #[.int .i64 ax,.int .i64 ay,.int .i64 bx,.int .i64 by'] by rw [←bJ]; exact (((BX.at rfl).alloc _).alloc _))
 have bS:=hJ (show BX 25 x1 (w.heap.size+1) #[.int .i64 cx,.int .i64 cy,.int .i64 dx,.int .i64 dy] by rw [←bJ]; exact ((BX.at (by simp only [World.size_alloc])).alloc _))
 have cN:=hJ (show BX 37 x1 (w.heap.size+2) #[.bool false,.slice none 0 0,.bool false,.slice none 0 0,.bool false,.slice none 0 0,.bool false,.slice none 0 0] by rw [←bJ]; exact (BX.at (by simp only [World.size_alloc])))
 have cO:=hJ (show w.heap.size≤w.heap.size+2 by omega)
 have bY:=hJ (show w.heap.size+2 < x1.heap.size from cN.out.lt)
 have aL:Hid (∀ w',Below x1.heap.size x1 w'→(fun w':World=>w'.cell? ⟨w.heap.size,0,none⟩=some (.int .i64 ax)∧w'.cell? ⟨w.heap.size,1,none⟩=some (.int .i64 ay)∧w'.cell? ⟨w.heap.size,2,none⟩=some (.int .i64 bx)∧w'.cell? ⟨w.heap.size,3,none⟩=some (.int .i64 by')∧w'.cell? ⟨w.heap.size+1,0,none⟩=some (.int .i64 cx)∧w'.cell? ⟨w.heap.size+1,1,none⟩=some (.int .i64 cy)∧w'.cell? ⟨w.heap.size+1,2,none⟩=some (.int .i64 dx)∧w'.cell? ⟨w.heap.size+1,3,none⟩=some (.int .i64 dy)∧Below x1.heap.size x1 w') w'):=hJ (fun w' hb=>⟨(BX.new bR.out hb).cell 0 rfl,(BX.new bR.out hb).cell 1 rfl,(BX.new bR.out hb).cell 2 rfl,(BX.new bR.out hb).cell 3 rfl,(BX.new bS.out hb).cell 0 rfl,(BX.new bS.out hb).cell 1 rfl,(BX.new bS.out hb).cell 2 rfl,(BX.new bS.out hb).cell 3 rfl,hb⟩)
 go_enter Tryz.func78,Tryz.ntmps78
 go_wp2_with fail
 clear bJ
 obtain ⟨v2,hv2⟩:=nmz (World.drew x1)
 have dY:=hJ (show Below x1.heap.size x1 v2 by rw [←hv2]; exact (Below.refl _ _).drew)
 refine whd aL hv2 (fun hHeld=>?_)
 clear hv2
 refine tq 0 ?_
 refine tq 1 ?_
 refine tq 3 ?_
 refine tq 4 ?_
 refine tq 6 ?_
 refine tq 7 ?_
 refine tq 9 ?_
 refine tq 10 ?_
 try simp only [PT]
 refine wpAnyH_name (fun F hF a0 ha0 L0 hL0=>?_)
 have JF1:∀ s11 A11 n11 c11 t11 B11 m11 d11 s12 A12 n12 c12 t12 B12 m12 d12 s13 A13 n13 c13 t13 B13 m13 d13 s14 A14 n14 c14 t14 B14 m14 d14 s15 A15 n15 c15 t15 B15 m15 d15 s16 A16 n16 c16 t16 B16 m16 d16 s17 A17 n17 c17 t17 B17 m17 d17 s18 A18 n18 c18 t18 B18 m18 d18 aA aB aD aG v,Hid (Below x1.heap.size x1 v)→Hid (PF v s11 A11 n11 c11 t11 B11 m11 d11 ax 1)→Hid (PF v s12 A12 n12 c12 t12 B12 m12 d12 ay 1)→Hid (PF v s13 A13 n13 c13 t13 B13 m13 d13 bx 1)→Hid (PF v s14 A14 n14 c14 t14 B14 m14 d14 by' 1)→Hid (PF v s15 A15 n15 c15 t15 B15 m15 d15 cx 1)→Hid (PF v s16 A16 n16 c16 t16 B16 m16 d16 cy 1)→Hid (PF v s17 A17 n17 c17 t17 B17 m17 d17 dx 1)→Hid (PF v s18 A18 n18 c18 t18 B18 m18 d18 dy 1)→Hid (BX 37 v aA #[.bool false,.slice none 0 0,.bool false,.slice none 0 0,.bool false,.slice none 0 0,.bool false,.slice none 0 0])→Hid (x1.heap.size≤aA)→Hid (BX 37 v aB #[.bool false,.slice none 0 0,.bool false,.slice none 0 0,.bool false,.slice none 0 0,.bool false,.slice none 0 0])→Hid (x1.heap.size≤aB)→Hid (aA≠aB)→Hid (BX 37 v aD #[.bool false,.slice none 0 0,.bool false,.slice none 0 0,.bool false,.slice none 0 0,.bool false,.slice none 0 0])→Hid (x1.heap.size≤aD)→Hid (aA≠aD)→Hid (aB≠aD)→Hid (BX 37 v aG #[.bool false,.slice none 0 0,.bool false,.slice none 0 0,.bool false,.slice none 0 0,.bool false,.slice none 0 0])→Hid (x1.heap.size≤aG)→Hid (aA≠aG)→Hid (aB≠aG)→Hid (aD≠aG)→F 4 (setA L0 [2,5,8,11,12,13,14,15]) (Act.put (Act.put (Act.put (Act.put (Act.put (Act.put (Act.put (Act.put a0 (some 8) (.pointer (some ⟨aG,0,none⟩))) (some 7) (.pointer (some ⟨aD,0,none⟩))) (some 6) (.pointer (some ⟨aB,0,none⟩))) (some 5) (.pointer (some ⟨aA,0,none⟩))) (some 28) (.agg #[.bool s17,.slice A17 n17 c17,.bool t17,.slice B17 m17 d17,.bool s18,.slice A18 n18 c18,.bool t18,.slice B18 m18 d18])) (some 25) (.agg #[.bool s15,.slice A15 n15 c15,.bool t15,.slice B15 m15 d15,.bool s16,.slice A16 n16 c16,.bool t16,.slice B16 m16 d16])) (some 22) (.agg #[.bool s13,.slice A13 n13 c13,.bool t13,.slice B13 m13 d13,.bool s14,.slice A14 n14 c14,.bool t14,.slice B14 m14 d14])) (some 19) (.agg #[.bool s11,.slice A11 n11 c11,.bool t11,.slice B11 m11 d11,.bool s12,.slice A12 n12 c12,.bool t12,.slice B12 m12 d12])) v:=by
  intro s11 A11 n11 c11 t11 B11 m11 d11 s12 A12 n12 c12 t12 B12 m12 d12 s13 A13 n13 c13 t13 B13 m13 d13 s14 A14 n14 c14 t14 B14 m14 d14 s15 A15 n15 c15 t15 B15 m15 d15 s16 A16 n16 c16 t16 B16 m16 d16 s17 A17 n17 c17 t17 B17 m17 d17 s18 A18 n18 c18 t18 B18 m18 d18 aA aB aD aG v cP dZ eA eB eC eD eE eF eG aH cQ eH cR cS eI eJ cT cU eK eL cV cW cX
  subst hF ha0 hL0
  simp only [setA,Act.put,List.setIfInBounds_toArray,List.set_cons_zero,List.set_cons_succ] at ⊢
  have hHeld:=aL.out _ cP.out
  refine ryy [16] ?_
  refine .cons rfl (fun K hK=>?_) .nil
  have z3_0:=aH.out.cell 0 rfl
  have y3_0:=aH.out.frozen 0
  have z3_1:=aH.out.cell 1 rfl
  have y3_1:=aH.out.frozen 1
  have z3_2:=aH.out.cell 2 rfl
  have y3_2:=aH.out.frozen 2
  have z3_3:=aH.out.cell 3 rfl
  have y3_3:=aH.out.frozen 3
  have z3_4:=aH.out.cell 4 rfl
  have y3_4:=aH.out.frozen 4
  have z3_5:=aH.out.cell 5 rfl
  have y3_5:=aH.out.frozen 5
  have z3_6:=aH.out.cell 6 rfl
  have y3_6:=aH.out.frozen 6
  have z3_7:=aH.out.cell 7 rfl
  have y3_7:=aH.out.frozen 7
  have z3:=aH.out.lt
  go_simp
  obtain ⟨v3,hV⟩:=nmz (World.setCell (World.setCell (World.setCell (World.setCell (World.setCell (World.setCell (World.setCell (World.setCell v ⟨aA,0,none⟩ (.bool s11)) ⟨aA,1,none⟩ (.slice A11 n11 c11)) ⟨aA,2,none⟩ (.bool t11)) ⟨aA,3,none⟩ (.slice B11 m11 d11)) ⟨aA,4,none⟩ (.bool s12)) ⟨aA,5,none⟩ (.slice A12 n12 c12)) ⟨aA,6,none⟩ (.bool t12)) ⟨aA,7,none⟩ (.slice B12 m12 d12))
  rw [hV]
  have aR:=hJ (show sto v aA 0 [.bool s11,.slice A11 n11 c11,.bool t11,.slice B11 m11 d11,.bool s12,.slice A12 n12 c12,.bool t12,.slice B12 m12 d12]=v3 from hV)
  clear hV z3 z3_0 y3_0 z3_1 y3_1 z3_2 y3_2 z3_3 y3_3 z3_4 y3_4 z3_5 y3_5 z3_6 y3_6 z3_7 y3_7
  have cY:=hJ (show Below x1.heap.size x1 v3 by rw [←aR.out]; exact below_sto cP.out cQ.out _ _)
  have eM:=hJ (show PF v3 s11 A11 n11 c11 t11 B11 m11 d11 ax 1 by rw [←aR.out]; exact PF.sto dZ.out aH.out rfl _ _)
  have eN:=hJ (show PF v3 s12 A12 n12 c12 t12 B12 m12 d12 ay 1 by rw [←aR.out]; exact PF.sto eA.out aH.out rfl _ _)
  have eO:=hJ (show PF v3 s13 A13 n13 c13 t13 B13 m13 d13 bx 1 by rw [←aR.out]; exact PF.sto eB.out aH.out rfl _ _)
  have eP:=hJ (show PF v3 s14 A14 n14 c14 t14 B14 m14 d14 by' 1 by rw [←aR.out]; exact PF.sto eC.out aH.out rfl _ _)
  have eQ:=hJ (show PF v3 s15 A15 n15 c15 t15 B15 m15 d15 cx 1 by rw [←aR.out]; exact PF.sto eD.out aH.out rfl _ _)
  have eR:=hJ (show PF v3 s16 A16 n16 c16 t16 B16 m16 d16 cy 1 by rw [←aR.out]; exact PF.sto eE.out aH.out rfl _ _)
  have eS:=hJ (show PF v3 s17 A17 n17 c17 t17 B17 m17 d17 dx 1 by rw [←aR.out]; exact PF.sto eF.out aH.out rfl _ _)
  have eT:=hJ (show PF v3 s18 A18 n18 c18 t18 B18 m18 d18 dy 1 by rw [←aR.out]; exact PF.sto eG.out aH.out rfl _ _)
  have aI:=hJ (show BX 37 v3 aB #[.bool false,.slice none 0 0,.bool false,.slice none 0 0,.bool false,.slice none 0 0,.bool false,.slice none 0 0] by rw [←aR.out]; exact BX.far eH.out cS.out.symm _ _)
  have eU:=hJ (show BX 37 v3 aD #[.bool false,.slice none 0 0,.bool false,.slice none 0 0,.bool false,.slice none 0 0,.bool false,.slice none 0 0] by rw [←aR.out]; exact BX.far eI.out cT.out.symm _ _)
  have eV:=hJ (show BX 37 v3 aG #[.bool false,.slice none 0 0,.bool false,.slice none 0 0,.bool false,.slice none 0 0,.bool false,.slice none 0 0] by rw [←aR.out]; exact BX.far eK.out cV.out.symm _ _)
  have eW:=hJ (show BX 37 v3 aA #[.bool s11,.slice A11 n11 c11,.bool t11,.slice B11 m11 d11,.bool s12,.slice A12 n12 c12,.bool t12,.slice B12 m12 d12] by rw [←aR.out]; exact BX.put aH.out _ _)
  clear hHeld
  refine hK.out _ _ (aL.out _ cY.out) (fun hHeld=>?_)
  clear hK K
  try simp only [PT]
  refine ryy [17] ?_
  refine .cons rfl (fun K hK=>?_) .nil
  have z4_0:=aI.out.cell 0 rfl
  have y4_0:=aI.out.frozen 0
  have z4_1:=aI.out.cell 1 rfl
  have y4_1:=aI.out.frozen 1
  have z4_2:=aI.out.cell 2 rfl
  have y4_2:=aI.out.frozen 2
  have z4_3:=aI.out.cell 3 rfl
  have y4_3:=aI.out.frozen 3
  have z4_4:=aI.out.cell 4 rfl
  have y4_4:=aI.out.frozen 4
  have z4_5:=aI.out.cell 5 rfl
  have y4_5:=aI.out.frozen 5
  have z4_6:=aI.out.cell 6 rfl
  have y4_6:=aI.out.frozen 6
  have z4_7:=aI.out.cell 7 rfl
  have y4_7:=aI.out.frozen 7
  have z4:=aI.out.lt
  go_simp
  obtain ⟨v4,hV⟩:=nmz (World.setCell (World.setCell (World.setCell (World.setCell (World.setCell (World.setCell (World.setCell (World.setCell v3 ⟨aB,0,none⟩ (.bool s13)) ⟨aB,1,none⟩ (.slice A13 n13 c13)) ⟨aB,2,none⟩ (.bool t13)) ⟨aB,3,none⟩ (.slice B13 m13 d13)) ⟨aB,4,none⟩ (.bool s14)) ⟨aB,5,none⟩ (.slice A14 n14 c14)) ⟨aB,6,none⟩ (.bool t14)) ⟨aB,7,none⟩ (.slice B14 m14 d14))
  rw [hV]
  have aS:=hJ (show sto v3 aB 0 [.bool s13,.slice A13 n13 c13,.bool t13,.slice B13 m13 d13,.bool s14,.slice A14 n14 c14,.bool t14,.slice B14 m14 d14]=v4 from hV)
  clear hV z4 z4_0 y4_0 z4_1 y4_1 z4_2 y4_2 z4_3 y4_3 z4_4 y4_4 z4_5 y4_5 z4_6 y4_6 z4_7 y4_7
  have cZ:=hJ (show Below x1.heap.size x1 v4 by rw [←aS.out]; exact below_sto cY.out cR.out _ _)
  have eX:=hJ (show PF v4 s11 A11 n11 c11 t11 B11 m11 d11 ax 1 by rw [←aS.out]; exact PF.sto eM.out aI.out rfl _ _)
  have eY:=hJ (show PF v4 s12 A12 n12 c12 t12 B12 m12 d12 ay 1 by rw [←aS.out]; exact PF.sto eN.out aI.out rfl _ _)
  have eZ:=hJ (show PF v4 s13 A13 n13 c13 t13 B13 m13 d13 bx 1 by rw [←aS.out]; exact PF.sto eO.out aI.out rfl _ _)
  have fA:=hJ (show PF v4 s14 A14 n14 c14 t14 B14 m14 d14 by' 1 by rw [←aS.out]; exact PF.sto eP.out aI.out rfl _ _)
  have fB:=hJ (show PF v4 s15 A15 n15 c15 t15 B15 m15 d15 cx 1 by rw [←aS.out]; exact PF.sto eQ.out aI.out rfl _ _)
  have fC:=hJ (show PF v4 s16 A16 n16 c16 t16 B16 m16 d16 cy 1 by rw [←aS.out]; exact PF.sto eR.out aI.out rfl _ _)
  have fD:=hJ (show PF v4 s17 A17 n17 c17 t17 B17 m17 d17 dx 1 by rw [←aS.out]; exact PF.sto eS.out aI.out rfl _ _)
  have fE:=hJ (show PF v4 s18 A18 n18 c18 t18 B18 m18 d18 dy 1 by rw [←aS.out]; exact PF.sto eT.out aI.out rfl _ _)
  have aJ:=hJ (show BX 37 v4 aD #[.bool false,.slice none 0 0,.bool false,.slice none 0 0,.bool false,.slice none 0 0,.bool false,.slice none 0 0] by rw [←aS.out]; exact BX.far eU.out cU.out.symm _ _)
  have fF:=hJ (show BX 37 v4 aG #[.bool false,.slice none 0 0,.bool false,.slice none 0 0,.bool false,.slice none 0 0,.bool false,.slice none 0 0] by rw [←aS.out]; exact BX.far eV.out cW.out.symm _ _)
  have fG:=hJ (show BX 37 v4 aA #[.bool s11,.slice A11 n11 c11,.bool t11,.slice B11 m11 d11,.bool s12,.slice A12 n12 c12,.bool t12,.slice B12 m12 d12] by rw [←aS.out]; exact BX.far eW.out cS.out _ _)
  have fH:=hJ (show BX 37 v4 aB #[.bool s13,.slice A13 n13 c13,.bool t13,.slice B13 m13 d13,.bool s14,.slice A14 n14 c14,.bool t14,.slice B14 m14 d14] by rw [←aS.out]; exact BX.put aI.out _ _)
  clear hHeld
  refine hK.out _ _ (aL.out _ cZ.out) (fun hHeld=>?_)
  clear hK K
  try simp only [PT]
  refine ryy [18] ?_
  refine .cons rfl (fun K hK=>?_) .nil
  have z5_0:=aJ.out.cell 0 rfl
  have y5_0:=aJ.out.frozen 0
  have z5_1:=aJ.out.cell 1 rfl
  have y5_1:=aJ.out.frozen 1
  have z5_2:=aJ.out.cell 2 rfl
  have y5_2:=aJ.out.frozen 2
  have z5_3:=aJ.out.cell 3 rfl
  have y5_3:=aJ.out.frozen 3
  have z5_4:=aJ.out.cell 4 rfl
  have y5_4:=aJ.out.frozen 4
  have z5_5:=aJ.out.cell 5 rfl
  have y5_5:=aJ.out.frozen 5
  have z5_6:=aJ.out.cell 6 rfl
  have y5_6:=aJ.out.frozen 6
  have z5_7:=aJ.out.cell 7 rfl
  have y5_7:=aJ.out.frozen 7
  have z5:=aJ.out.lt
  go_simp
  obtain ⟨v5,hV⟩:=nmz (World.setCell (World.setCell (World.setCell (World.setCell (World.setCell (World.setCell (World.setCell (World.setCell v4 ⟨aD,0,none⟩ (.bool s15)) ⟨aD,1,none⟩ (.slice A15 n15 c15)) ⟨aD,2,none⟩ (.bool t15)) ⟨aD,3,none⟩ (.slice B15 m15 d15)) ⟨aD,4,none⟩ (.bool s16)) ⟨aD,5,none⟩ (.slice A16 n16 c16)) ⟨aD,6,none⟩ (.bool t16)) ⟨aD,7,none⟩ (.slice B16 m16 d16))
  rw [hV]
  have aT:=hJ (show sto v4 aD 0 [.bool s15,.slice A15 n15 c15,.bool t15,.slice B15 m15 d15,.bool s16,.slice A16 n16 c16,.bool t16,.slice B16 m16 d16]=v5 from hV)
  clear hV z5 z5_0 y5_0 z5_1 y5_1 z5_2 y5_2 z5_3 y5_3 z5_4 y5_4 z5_5 y5_5 z5_6 y5_6 z5_7 y5_7
  have dA:=hJ (show Below x1.heap.size x1 v5 by rw [←aT.out]; exact below_sto cZ.out eJ.out _ _)
  have fI:=hJ (show PF v5 s11 A11 n11 c11 t11 B11 m11 d11 ax 1 by rw [←aT.out]; exact PF.sto eX.out aJ.out rfl _ _)
  have fJ:=hJ (show PF v5 s12 A12 n12 c12 t12 B12 m12 d12 ay 1 by rw [←aT.out]; exact PF.sto eY.out aJ.out rfl _ _)
  have fK:=hJ (show PF v5 s13 A13 n13 c13 t13 B13 m13 d13 bx 1 by rw [←aT.out]; exact PF.sto eZ.out aJ.out rfl _ _)
  have fL:=hJ (show PF v5 s14 A14 n14 c14 t14 B14 m14 d14 by' 1 by rw [←aT.out]; exact PF.sto fA.out aJ.out rfl _ _)
  have fM:=hJ (show PF v5 s15 A15 n15 c15 t15 B15 m15 d15 cx 1 by rw [←aT.out]; exact PF.sto fB.out aJ.out rfl _ _)
  have fN:=hJ (show PF v5 s16 A16 n16 c16 t16 B16 m16 d16 cy 1 by rw [←aT.out]; exact PF.sto fC.out aJ.out rfl _ _)
  have fO:=hJ (show PF v5 s17 A17 n17 c17 t17 B17 m17 d17 dx 1 by rw [←aT.out]; exact PF.sto fD.out aJ.out rfl _ _)
  have fP:=hJ (show PF v5 s18 A18 n18 c18 t18 B18 m18 d18 dy 1 by rw [←aT.out]; exact PF.sto fE.out aJ.out rfl _ _)
  have aK:=hJ (show BX 37 v5 aG #[.bool false,.slice none 0 0,.bool false,.slice none 0 0,.bool false,.slice none 0 0,.bool false,.slice none 0 0] by rw [←aT.out]; exact BX.far fF.out cX.out.symm _ _)
  have fQ:=hJ (show BX 37 v5 aA #[.bool s11,.slice A11 n11 c11,.bool t11,.slice B11 m11 d11,.bool s12,.slice A12 n12 c12,.bool t12,.slice B12 m12 d12] by rw [←aT.out]; exact BX.far fG.out cT.out _ _)
  have fR:=hJ (show BX 37 v5 aB #[.bool s13,.slice A13 n13 c13,.bool t13,.slice B13 m13 d13,.bool s14,.slice A14 n14 c14,.bool t14,.slice B14 m14 d14] by rw [←aT.out]; exact BX.far fH.out cU.out _ _)
  have fS:=hJ (show BX 37 v5 aD #[.bool s15,.slice A15 n15 c15,.bool t15,.slice B15 m15 d15,.bool s16,.slice A16 n16 c16,.bool t16,.slice B16 m16 d16] by rw [←aT.out]; exact BX.put aJ.out _ _)
  clear hHeld
  refine hK.out _ _ (aL.out _ dA.out) (fun hHeld=>?_)
  clear hK K
  try simp only [PT]
  refine ryy [19] ?_
  refine .cons rfl (fun K hK=>?_) .nil
  have z6_0:=aK.out.cell 0 rfl
  have y6_0:=aK.out.frozen 0
  have z6_1:=aK.out.cell 1 rfl
  have y6_1:=aK.out.frozen 1
  have z6_2:=aK.out.cell 2 rfl
  have y6_2:=aK.out.frozen 2
  have z6_3:=aK.out.cell 3 rfl
  have y6_3:=aK.out.frozen 3
  have z6_4:=aK.out.cell 4 rfl
  have y6_4:=aK.out.frozen 4
  have z6_5:=aK.out.cell 5 rfl
  have y6_5:=aK.out.frozen 5
  have z6_6:=aK.out.cell 6 rfl
  have y6_6:=aK.out.frozen 6
  have z6_7:=aK.out.cell 7 rfl
  have y6_7:=aK.out.frozen 7
  have z6:=aK.out.lt
  go_simp
  obtain ⟨v6,hV⟩:=nmz (World.setCell (World.setCell (World.setCell (World.setCell (World.setCell (World.setCell (World.setCell (World.setCell v5 ⟨aG,0,none⟩ (.bool s17)) ⟨aG,1,none⟩ (.slice A17 n17 c17)) ⟨aG,2,none⟩ (.bool t17)) ⟨aG,3,none⟩ (.slice B17 m17 d17)) ⟨aG,4,none⟩ (.bool s18)) ⟨aG,5,none⟩ (.slice A18 n18 c18)) ⟨aG,6,none⟩ (.bool t18)) ⟨aG,7,none⟩ (.slice B18 m18 d18))
  rw [hV]
  have aU:=hJ (show sto v5 aG 0 [.bool s17,.slice A17 n17 c17,.bool t17,.slice B17 m17 d17,.bool s18,.slice A18 n18 c18,.bool t18,.slice B18 m18 d18]=v6 from hV)
  clear hV z6 z6_0 y6_0 z6_1 y6_1 z6_2 y6_2 z6_3 y6_3 z6_4 y6_4 z6_5 y6_5 z6_6 y6_6 z6_7 y6_7
  have bT:=hJ (show Below x1.heap.size x1 v6 by rw [←aU.out]; exact below_sto dA.out eL.out _ _)
  have dB:=hJ (show PF v6 s11 A11 n11 c11 t11 B11 m11 d11 ax 1 by rw [←aU.out]; exact PF.sto fI.out aK.out rfl _ _)
  have dD:=hJ (show PF v6 s12 A12 n12 c12 t12 B12 m12 d12 ay 1 by rw [←aU.out]; exact PF.sto fJ.out aK.out rfl _ _)
  have fT:=hJ (show PF v6 s13 A13 n13 c13 t13 B13 m13 d13 bx 1 by rw [←aU.out]; exact PF.sto fK.out aK.out rfl _ _)
  have fU:=hJ (show PF v6 s14 A14 n14 c14 t14 B14 m14 d14 by' 1 by rw [←aU.out]; exact PF.sto fL.out aK.out rfl _ _)
  have dE:=hJ (show PF v6 s15 A15 n15 c15 t15 B15 m15 d15 cx 1 by rw [←aU.out]; exact PF.sto fM.out aK.out rfl _ _)
  have dG:=hJ (show PF v6 s16 A16 n16 c16 t16 B16 m16 d16 cy 1 by rw [←aU.out]; exact PF.sto fN.out aK.out rfl _ _)
  have dH:=hJ (show PF v6 s17 A17 n17 c17 t17 B17 m17 d17 dx 1 by rw [←aU.out]; exact PF.sto fO.out aK.out rfl _ _)
  have dI:=hJ (show PF v6 s18 A18 n18 c18 t18 B18 m18 d18 dy 1 by rw [←aU.out]; exact PF.sto fP.out aK.out rfl _ _)
  have dJ:=hJ (show BX 37 v6 aA #[.bool s11,.slice A11 n11 c11,.bool t11,.slice B11 m11 d11,.bool s12,.slice A12 n12 c12,.bool t12,.slice B12 m12 d12] by rw [←aU.out]; exact BX.far fQ.out cV.out _ _)
  have fV:=hJ (show BX 37 v6 aB #[.bool s13,.slice A13 n13 c13,.bool t13,.slice B13 m13 d13,.bool s14,.slice A14 n14 c14,.bool t14,.slice B14 m14 d14] by rw [←aU.out]; exact BX.far fR.out cW.out _ _)
  have dK:=hJ (show BX 37 v6 aD #[.bool s15,.slice A15 n15 c15,.bool t15,.slice B15 m15 d15,.bool s16,.slice A16 n16 c16,.bool t16,.slice B16 m16 d16] by rw [←aU.out]; exact BX.far fS.out cX.out _ _)
  have dL:=hJ (show BX 37 v6 aG #[.bool s17,.slice A17 n17 c17,.bool t17,.slice B17 m17 d17,.bool s18,.slice A18 n18 c18,.bool t18,.slice B18 m18 d18] by rw [←aU.out]; exact BX.put aK.out _ _)
  clear hHeld
  refine hK.out _ _ (aL.out _ bT.out) (fun hHeld=>?_)
  clear hK K
  try simp only [PT]
  refine wpAnyH_done (by kernel_rfl) ?_ _
  clear hHeld
  obtain ⟨fW,fX,fY,fZ,gA,gB,gC,gD⟩:=dK.out.q8 0 1 2 3 4 5 6 7
  obtain ⟨gE,gF,gG,gH,gI,gJ,gK,gL⟩:=dL.out.q8 0 1 2 3 4 5 6 7
  obtain ⟨gM,gN,gO,gP,gQ,gR,gS,gT⟩:=dJ.out.q8 0 1 2 3 4 5 6 7
  go_wp2_with fail
  clear fW fX fY fZ gA gB gC gD gE gF gG gH gI gJ gK gL gM gN gO gP gQ gR gS gT
  refine (areav_any v6 ⟨pfv_one dE.out,pfv_one dG.out⟩ ⟨pfv_one dH.out,pfv_one dI.out⟩ ⟨pfv_one dB.out,pfv_one dD.out⟩ (vd_pz HB.out.1) (vd_pz HB.out.2) (vd_pz HA.out.1)).mono ?_
  rw [(aN_mk _ _ _ _ _ _).1,(aN_mk _ _ _ _ _ _).2,cL.out]
  rintro e w35 ⟨s19,A19,n19,c19,t19,B19,m19,d19,rfl,hr19,hb⟩
  have bU:=hJ hb
  have gU:=hJ hr19
  clear hb hr19
  obtain ⟨x36,bZ⟩:=nmz (w35.alloc (.cells #[.bool s19,.slice A19 n19 c19,.bool t19,.slice B19 m19 d19] 35))
  have bK:=hJ (show Below w35.heap.size w35 x36 by rw [←bZ]; exact ((Below.refl _ _).alloc (Nat.le_refl _) _))
  have gV:=hJ (show BX 35 x36 w35.heap.size #[.bool s19,.slice A19 n19 c19,.bool t19,.slice B19 m19 d19] by rw [←bZ]; exact (BX.at rfl))
  have aV:=hJ (bt bU.out bK.out)
  have gW:=hJ (BX.new dK.out aV.out)
  obtain ⟨gX,gY,gZ,hA,hB,hC,hD,hE⟩:=gW.out.q8 0 1 2 3 4 5 6 7
  have hG:=hJ (BX.new dL.out aV.out)
  obtain ⟨hH,hI,hL,hM,hN,hO,hP,hQ⟩:=hG.out.q8 0 1 2 3 4 5 6 7
  have dM:=hJ (BX.new fV.out aV.out)
  obtain ⟨hR,hS,hT,hU,hW,hX,hY,hZ⟩:=dM.out.q8 0 1 2 3 4 5 6 7
  have iA:=hJ (PF.new dE.out aV.out)
  have iB:=hJ (PF.new dG.out aV.out)
  have iC:=hJ (PF.new dH.out aV.out)
  have iD:=hJ (PF.new dI.out aV.out)
  have dN:=hJ (PF.new fT.out aV.out)
  have dO:=hJ (PF.new fU.out aV.out)
  go_wp2_with fail
  clear bZ gX gY gZ hA hB hC hD hE hH hI hL hM hN hO hP hQ hR hS hT hU hW hX hY hZ
  refine (areav_any x36 ⟨pfv_one iA.out,pfv_one iB.out⟩ ⟨pfv_one iC.out,pfv_one iD.out⟩ ⟨pfv_one dN.out,pfv_one dO.out⟩ (vd_pz HB.out.1) (vd_pz HB.out.2) (vd_pz HA.out.2)).mono ?_
  rw [(aN_mk _ _ _ _ _ _).1,(aN_mk _ _ _ _ _ _).2,cM.out]
  rintro e w61 ⟨s20,A20,n20,c20,t20,B20,m20,d20,rfl,hr20,hb⟩
  have bG:=hJ hb
  have iE:=hJ hr20
  clear hb hr20
  obtain ⟨x62,cA⟩:=nmz (w61.alloc (.cells #[.bool s20,.slice A20 n20 c20,.bool t20,.slice B20 m20 d20] 35))
  have bD:=hJ (show Below w61.heap.size w61 x62 by rw [←cA]; exact ((Below.refl _ _).alloc (Nat.le_refl _) _))
  have iF:=hJ (show BX 35 x62 w61.heap.size #[.bool s20,.slice A20 n20 c20,.bool t20,.slice B20 m20 d20] by rw [←cA]; exact (BX.at rfl))
  have dP:=hJ (bt bG.out bD.out)
  have dQ:=hJ (BX.new gV.out dP.out)
  obtain ⟨iG,iH,iI,iJ⟩:=dQ.out.c4 0 1 2 3 rfl rfl rfl rfl
  obtain ⟨iK,iL,iM,iN⟩:=iF.out.c4 0 1 2 3 rfl rfl rfl rfl
  obtain ⟨P21,hP21⟩:=nmz (adP n1 1 (-n2) 1)
  have cB:=hJ hP21
  clear hP21
  obtain ⟨Q22,hQ22⟩:=nmz (adQ n1 1 (-n2) 1)
  have cC:=hJ hQ22
  clear hQ22
  obtain ⟨C23,hC23⟩:=nmz (adC n1 1 (-n2) 1)
  have iO:=hJ hC23
  clear hC23
  have bV:=hJ (show Fr P21 Q22 by rw [←cB.out,←cC.out]; exact fr_ad aZ.out (fr_neg bQ.out))
  have iP:=hJ (bt (bt bK.out bG.out) bD.out)
  have dR:=hJ (PF.new gU.out iP.out)
  have iQ:=hJ (PF.new iE.out bD.out)
  go_wp2_with fail
  clear cA iG iH iI iJ iK iL iM iN
  refine (fsub_any n1 1 n2 1 s19 t19 s20 t20 A19 B19 A20 B20 n19 c19 m19 d19 n20 c20 m20 d20 x62 dR.out iQ.out aZ.out.1.1 bQ.out.1.1 aZ.out.2.1 aZ.out.2.2 bQ.out.2.1 bQ.out.2.2).mono ?_
  rw [cB.out,cC.out,iO.out]
  rintro e w71 ⟨s25,A25,n25,c25,t25,B25,m25,d25,rfl,hr25,hb⟩
  have bH:=hJ hb
  have iR:=hJ hr25
  clear hb hr25
  obtain ⟨x72,cD⟩:=nmz (w71.alloc (.cells #[.bool s25,.slice A25 n25 c25,.bool t25,.slice B25 m25 d25] 35))
  have bE:=hJ (show Below w71.heap.size w71 x72 by rw [←cD]; exact ((Below.refl _ _).alloc (Nat.le_refl _) _))
  have iS:=hJ (show BX 35 x72 w71.heap.size #[.bool s25,.slice A25 n25 c25,.bool t25,.slice B25 m25 d25] by rw [←cD]; exact (BX.at rfl))
  have dS:=hJ (bt bH.out bE.out)
  have iT:=hJ (BX.new dQ.out dS.out)
  obtain ⟨iU,iV,iW,iX⟩:=iT.out.c4 0 1 2 3 rfl rfl rfl rfl
  obtain ⟨iY,iZ,jA,jB⟩:=iS.out.c4 0 1 2 3 rfl rfl rfl rfl
  obtain ⟨P26,hP26⟩:=nmz (dvP n1 1 P21 Q22)
  have cE:=hJ hP26
  clear hP26
  obtain ⟨Q27,hQ27⟩:=nmz (dvQ n1 1 P21 Q22)
  have cF:=hJ hQ27
  clear hQ27
  obtain ⟨C28,hC28⟩:=nmz (dvC n1 1 P21 Q22)
  have jC:=hJ hC28
  clear hC28
  have dT:=hJ (show Fr P26 Q27 by rw [←cE.out,←cF.out]; exact fr_dv aZ.out bV.out)
  have jD:=hJ (PF.new dR.out dS.out)
  have jE:=hJ (PF.new iR.out bE.out)
  go_wp2_with fail
  clear cD iU iV iW iX iY iZ jA jB
  refine (fdiv_any n1 1 P21 Q22 s19 t19 s25 t25 A19 B19 A25 B25 n19 c19 m19 d19 n25 c25 m25 d25 x72 jD.out jE.out aZ.out.1.1 bV.out.1.1 aZ.out.2.1 aZ.out.2.2 bV.out.2.1 bV.out.2.2).mono ?_
  rw [cE.out,cF.out,jC.out]
  rintro e w81 ⟨s30,A30,n30,c30,t30,B30,m30,d30,rfl,hr30,hb⟩
  have bL:=hJ hb
  have jF:=hJ hr30
  clear hb hr30
  obtain ⟨x82,cG⟩:=nmz (w81.alloc (.cells #[.bool s30,.slice A30 n30 c30,.bool t30,.slice B30 m30 d30] 35))
  have bM:=hJ (show Below w81.heap.size w81 x82 by rw [←cG]; exact ((Below.refl _ _).alloc (Nat.le_refl _) _))
  have bN:=hJ (show BX 35 x82 w81.heap.size #[.bool s30,.slice A30 n30 c30,.bool t30,.slice B30 m30 d30] by rw [←cG]; exact (BX.at rfl))
  have jG:=hJ (show w81.heap.size≤w81.heap.size by omega)
  have cH:=hJ (bt (bt (bt (bt (bt (bt aV.out bG.out) bD.out) bH.out) bE.out) bL.out) bM.out)
  have aW:=hJ (BX.new dJ.out cH.out)
  have cI:=hJ (bt (bt (bt (bt dP.out bH.out) bE.out) bL.out) bM.out)
  have aX:=hJ (BX.new dM.out cI.out)
  have cJ:=hJ (bt (bt (bt (bt (bt (bt (bt (bt (bt dX.out bT.out) bU.out) bK.out) bG.out) bD.out) bH.out) bE.out) bL.out) bM.out)
  have cK:Hid (∀ w',Below x82.heap.size x82 w'→(fun w':World=>w'.cell? ⟨aA,0,none⟩=some (.bool s11)∧w'.cell? ⟨aA,1,none⟩=some (.slice A11 n11 c11)∧w'.cell? ⟨aA,2,none⟩=some (.bool t11)∧w'.cell? ⟨aA,3,none⟩=some (.slice B11 m11 d11)∧w'.cell? ⟨aB,0,none⟩=some (.bool s13)∧w'.cell? ⟨aB,1,none⟩=some (.slice A13 n13 c13)∧w'.cell? ⟨aB,2,none⟩=some (.bool t13)∧w'.cell? ⟨aB,3,none⟩=some (.slice B13 m13 d13)∧w'.cell? ⟨w81.heap.size,0,none⟩=some (.bool s30)∧w'.cell? ⟨w81.heap.size,1,none⟩=some (.slice A30 n30 c30)∧w'.cell? ⟨w81.heap.size,2,none⟩=some (.bool t30)∧w'.cell? ⟨w81.heap.size,3,none⟩=some (.slice B30 m30 d30)∧w'.cell? ⟨aA,4,none⟩=some (.bool s12)∧w'.cell? ⟨aA,5,none⟩=some (.slice A12 n12 c12)∧w'.cell? ⟨aA,6,none⟩=some (.bool t12)∧w'.cell? ⟨aA,7,none⟩=some (.slice B12 m12 d12)∧w'.cell? ⟨aB,4,none⟩=some (.bool s14)∧w'.cell? ⟨aB,5,none⟩=some (.slice A14 n14 c14)∧w'.cell? ⟨aB,6,none⟩=some (.bool t14)∧w'.cell? ⟨aB,7,none⟩=some (.slice B14 m14 d14)∧Below w.heap.size w w') w'):=hJ (fun w' hb=>⟨(BX.new aW.out hb).cell 0 rfl,(BX.new aW.out hb).cell 1 rfl,(BX.new aW.out hb).cell 2 rfl,(BX.new aW.out hb).cell 3 rfl,(BX.new aX.out hb).cell 0 rfl,(BX.new aX.out hb).cell 1 rfl,(BX.new aX.out hb).cell 2 rfl,(BX.new aX.out hb).cell 3 rfl,(BX.new bN.out hb).cell 0 rfl,(BX.new bN.out hb).cell 1 rfl,(BX.new bN.out hb).cell 2 rfl,(BX.new bN.out hb).cell 3 rfl,(BX.new aW.out hb).cell 4 rfl,(BX.new aW.out hb).cell 5 rfl,(BX.new aW.out hb).cell 6 rfl,(BX.new aW.out hb).cell 7 rfl,(BX.new aX.out hb).cell 4 rfl,(BX.new aX.out hb).cell 5 rfl,(BX.new aX.out hb).cell 6 rfl,(BX.new aX.out hb).cell 7 rfl,(bt cJ.out hb)⟩)
  have jH:=hJ (bt (bt (bt (bt (bt (bt (bt (bt bT.out bU.out) bK.out) bG.out) bD.out) bH.out) bE.out) bL.out) bM.out)
  have jI:=hJ (BX.new cN.out jH.out)
  have jJ:=hJ (bt (bt (bt (bt (bt (bt (bt bT.out bU.out) bK.out) bG.out) bD.out) bH.out) bE.out) bL.out)
  have jK:=hJ (PF.new dB.out cH.out)
  have jL:=hJ (PF.new dN.out cI.out)
  have dU:=hJ (PF.new jF.out bM.out)
  have jM:=hJ (PF.new dD.out cH.out)
  have jN:=hJ (PF.new dO.out cI.out)
  go_wp2_with fail
  clear cG
  obtain ⟨v83,hv83⟩:=nmz (World.drew x82)
  have bW:=hJ (show Below x82.heap.size x82 v83 by rw [←hv83]; exact (Below.refl _ _).drew)
  refine whd cK hv83 (fun hHeld=>?_)
  clear hv83
  refine tq 0 ?_
  refine tq 1 ?_
  refine tq 2 ?_
  refine tq 3 ?_
  refine tq 4 ?_
  refine tq 6 ?_
  refine tq 7 ?_
  refine tq 8 ?_
  refine tq 9 ?_
  refine tq 10 ?_
  try simp only [PT]
  refine ryy [5] ?_
  refine .cons rfl (fun K hK=>?_) .nil
  go_simp
  go_at_call 107
  refine (ontheway_any ax 1 bx 1 P26 Q27 s11 A11 n11 c11 t11 B11 m11 d11 s13 A13 n13 c13 t13 B13 m13 d13 s30 A30 n30 c30 t30 B30 m30 d30 v83 (PF.new jK.out bW.out) (PF.new jL.out bW.out) (PF.new dU.out bW.out) (int_fr aY.out.1.1) (int_fr aY.out.2.1) dT.out).mono ?_
  rintro e v84 ⟨s31,A31,n31,c31,t31,B31,m31,d31,rfl,hr31,hb⟩
  have jO:=hJ hb
  have jP:=hJ hr31
  clear hb hr31
  go_wp2_with fail
  have bO:=hJ (bt bW.out jO.out)
  clear hHeld
  refine hK.out _ _ (cK.out _ bO.out) (fun hHeld=>?_)
  clear hK K
  try simp only [PT]
  refine ryy [11] ?_
  refine .cons rfl (fun K hK=>?_) .nil
  go_simp
  go_at_call 107
  refine (ontheway_any ay 1 by' 1 P26 Q27 s12 A12 n12 c12 t12 B12 m12 d12 s14 A14 n14 c14 t14 B14 m14 d14 s30 A30 n30 c30 t30 B30 m30 d30 v84 (PF.new jM.out bO.out) (PF.new jN.out bO.out) (PF.new dU.out bO.out) (int_fr aY.out.1.2) (int_fr aY.out.2.2) dT.out).mono ?_
  rintro e v85 ⟨s32,A32,n32,c32,t32,B32,m32,d32,rfl,hr32,hb⟩
  have dW:=hJ hb
  have jQ:=hJ hr32
  clear hb hr32
  go_wp2_with fail
  have bF:=hJ (bt bO.out dW.out)
  have jR:=hJ (PF.new jP.out dW.out)
  clear hHeld
  refine hK.out _ _ (cK.out _ bF.out) (fun hHeld=>?_)
  clear hK K
  refine tq 12 ?_
  try simp only [PT]
  refine ryy [13] ?_
  refine .cons rfl (fun K hK=>?_) .nil
  have aM:=hJ (BX.new jI.out bF.out)
  have z86_0:=aM.out.cell 0 rfl
  have y86_0:=aM.out.frozen 0
  have z86_1:=aM.out.cell 1 rfl
  have y86_1:=aM.out.frozen 1
  have z86_2:=aM.out.cell 2 rfl
  have y86_2:=aM.out.frozen 2
  have z86_3:=aM.out.cell 3 rfl
  have y86_3:=aM.out.frozen 3
  have z86_4:=aM.out.cell 4 rfl
  have y86_4:=aM.out.frozen 4
  have z86_5:=aM.out.cell 5 rfl
  have y86_5:=aM.out.frozen 5
  have z86_6:=aM.out.cell 6 rfl
  have y86_6:=aM.out.frozen 6
  have z86_7:=aM.out.cell 7 rfl
  have y86_7:=aM.out.frozen 7
  have z86:=aM.out.lt
  go_simp
  obtain ⟨v86,hV⟩:=nmz (World.setCell (World.setCell (World.setCell (World.setCell (World.setCell (World.setCell (World.setCell (World.setCell v85 ⟨w.heap.size+2,0,none⟩ (.bool s31)) ⟨w.heap.size+2,1,none⟩ (.slice A31 n31 c31)) ⟨w.heap.size+2,2,none⟩ (.bool t31)) ⟨w.heap.size+2,3,none⟩ (.slice B31 m31 d31)) ⟨w.heap.size+2,4,none⟩ (.bool s32)) ⟨w.heap.size+2,5,none⟩ (.slice A32 n32 c32)) ⟨w.heap.size+2,6,none⟩ (.bool t32)) ⟨w.heap.size+2,7,none⟩ (.slice B32 m32 d32))
  rw [hV]
  have bA:=hJ (show sto v85 (w.heap.size+2) 0 [.bool s31,.slice A31 n31 c31,.bool t31,.slice B31 m31 d31,.bool s32,.slice A32 n32 c32,.bool t32,.slice B32 m32 d32]=v86 from hV)
  clear hV z86 z86_0 y86_0 z86_1 y86_1 z86_2 y86_2 z86_3 y86_3 z86_4 y86_4 z86_5 y86_5 z86_6 y86_6 z86_7 y86_7
  have jS:=hJ (show Below w.heap.size w v86 by rw [←bA.out]; exact below_sto (bt cJ.out bF.out) cO.out _ _)
  have bB:=hJ (show BX 37 v86 aA #[.bool s11,.slice A11 n11 c11,.bool t11,.slice B11 m11 d11,.bool s12,.slice A12 n12 c12,.bool t12,.slice B12 m12 d12] by rw [←bA.out]; exact BX.far (BX.new aW.out bF.out) (show aA≠w.heap.size+2 by have h1:=bY.out; have h2:=cQ.out; have h3:=((Below.refl x1.heap.size x1)).size; omega) _ _)
  have bC:=hJ (show BX 37 v86 aB #[.bool s13,.slice A13 n13 c13,.bool t13,.slice B13 m13 d13,.bool s14,.slice A14 n14 c14,.bool t14,.slice B14 m14 d14] by rw [←bA.out]; exact BX.far (BX.new aX.out bF.out) (show aB≠w.heap.size+2 by have h1:=bY.out; have h2:=cR.out; have h3:=((Below.refl x1.heap.size x1)).size; omega) _ _)
  have bX:=hJ (show BX 35 v86 w81.heap.size #[.bool s30,.slice A30 n30 c30,.bool t30,.slice B30 m30 d30] by rw [←bA.out]; exact BX.far (BX.new bN.out bF.out) (show w81.heap.size≠w.heap.size+2 by have h1:=bY.out; have h2:=jG.out; have h3:=(jJ.out).size; omega) _ _)
  clear hHeld
  refine hK.out _ _ (⟨bB.out.cell 0 rfl,bB.out.cell 1 rfl,bB.out.cell 2 rfl,bB.out.cell 3 rfl,bC.out.cell 0 rfl,bC.out.cell 1 rfl,bC.out.cell 2 rfl,bC.out.cell 3 rfl,bX.out.cell 0 rfl,bX.out.cell 1 rfl,bX.out.cell 2 rfl,bX.out.cell 3 rfl,bB.out.cell 4 rfl,bB.out.cell 5 rfl,bB.out.cell 6 rfl,bB.out.cell 7 rfl,bC.out.cell 4 rfl,bC.out.cell 5 rfl,bC.out.cell 6 rfl,bC.out.cell 7 rfl,jS.out⟩) (fun hHeld=>?_)
  clear hK K
  try simp only [PT]
  refine wpAnyH_done (by kernel_rfl) ?_ _
  clear hHeld
  have jT:=hJ (show BX 37 v86 (w.heap.size+2) #[.bool s31,.slice A31 n31 c31,.bool t31,.slice B31 m31 d31,.bool s32,.slice A32 n32 c32,.bool t32,.slice B32 m32 d32] by rw [←bA.out]; exact BX.put aM.out _ _)
  have jU:=hJ (show Below w.heap.size w v86 by rw [←bA.out]; exact below_sto (bt cJ.out bF.out) cO.out _ _)
  have jV:=hJ (show PF v86 s31 A31 n31 c31 t31 B31 m31 d31 (owP ax 1 bx 1 P26 Q27) (owQ ax 1 bx 1 P26 Q27) by rw [←bA.out]; exact PF.sto jR.out aM.out rfl _ _)
  have jW:=hJ (show PF v86 s32 A32 n32 c32 t32 B32 m32 d32 (owP ay 1 by' 1 P26 Q27) (owQ ay 1 by' 1 P26 Q27) by rw [←bA.out]; exact PF.sto jQ.out aM.out rfl _ _)
  go_wp2
  exact bodyPost_ret (results_cell_row rfl _ _ _ _ _ _ _ rfl jT.out Tryz.underlying37 rfl TP_size) rfl (by rw [cL.out,cM.out]; unfold crT crU; rw [cB.out,cC.out,cE.out,cF.out]; exact ⟨s31,A31,n31,c31,t31,B31,m31,d31,s32,A32,n32,c32,t32,B32,m32,d32,rfl,jV.out,jW.out,jU.out⟩)
 subst hF ha0 hL0
 simp only [PT] at JF1 ⊢
 refine wpAnyH_floats (base:=x1) [⟨2,19,false,fun xq wq=>∃ (s11:Bool) (A11:Option Addr) (n11:Nat) (c11:Nat) (t11:Bool) (B11:Option Addr) (m11:Nat) (d11:Nat) (s12:Bool) (A12:Option Addr) (n12:Nat) (c12:Nat) (t12:Bool) (B12:Option Addr) (m12:Nat) (d12:Nat),xq=Value.agg #[.bool s11,.slice A11 n11 c11,.bool t11,.slice B11 m11 d11,.bool s12,.slice A12 n12 c12,.bool t12,.slice B12 m12 d12]∧PF wq s11 A11 n11 c11 t11 B11 m11 d11 ax 1∧PF wq s12 A12 n12 c12 t12 B12 m12 d12 ay 1∧True⟩,⟨5,22,false,fun xq wq=>∃ (s13:Bool) (A13:Option Addr) (n13:Nat) (c13:Nat) (t13:Bool) (B13:Option Addr) (m13:Nat) (d13:Nat) (s14:Bool) (A14:Option Addr) (n14:Nat) (c14:Nat) (t14:Bool) (B14:Option Addr) (m14:Nat) (d14:Nat),xq=Value.agg #[.bool s13,.slice A13 n13 c13,.bool t13,.slice B13 m13 d13,.bool s14,.slice A14 n14 c14,.bool t14,.slice B14 m14 d14]∧PF wq s13 A13 n13 c13 t13 B13 m13 d13 bx 1∧PF wq s14 A14 n14 c14 t14 B14 m14 d14 by' 1∧True⟩,⟨8,25,false,fun xq wq=>∃ (s15:Bool) (A15:Option Addr) (n15:Nat) (c15:Nat) (t15:Bool) (B15:Option Addr) (m15:Nat) (d15:Nat) (s16:Bool) (A16:Option Addr) (n16:Nat) (c16:Nat) (t16:Bool) (B16:Option Addr) (m16:Nat) (d16:Nat),xq=Value.agg #[.bool s15,.slice A15 n15 c15,.bool t15,.slice B15 m15 d15,.bool s16,.slice A16 n16 c16,.bool t16,.slice B16 m16 d16]∧PF wq s15 A15 n15 c15 t15 B15 m15 d15 cx 1∧PF wq s16 A16 n16 c16 t16 B16 m16 d16 cy 1∧True⟩,⟨11,28,false,fun xq wq=>∃ (s17:Bool) (A17:Option Addr) (n17:Nat) (c17:Nat) (t17:Bool) (B17:Option Addr) (m17:Nat) (d17:Nat) (s18:Bool) (A18:Option Addr) (n18:Nat) (c18:Nat) (t18:Bool) (B18:Option Addr) (m18:Nat) (d18:Nat),xq=Value.agg #[.bool s17,.slice A17 n17 c17,.bool t17,.slice B17 m17 d17,.bool s18,.slice A18 n18 c18,.bool t18,.slice B18 m18 d18]∧PF wq s17 A17 n17 c17 t17 B17 m17 d17 dx 1∧PF wq s18 A18 n18 c18 t18 B18 m18 d18 dy 1∧True⟩,⟨12,5,true,fun xq wq=>∃ aA,xq=Value.pointer (some ⟨aA,0,none⟩)∧BX 37 wq aA #[.bool false,.slice none 0 0,.bool false,.slice none 0 0,.bool false,.slice none 0 0,.bool false,.slice none 0 0]∧x1.heap.size≤aA⟩,⟨13,6,true,fun xq wq=>∃ aB,xq=Value.pointer (some ⟨aB,0,none⟩)∧BX 37 wq aB #[.bool false,.slice none 0 0,.bool false,.slice none 0 0,.bool false,.slice none 0 0,.bool false,.slice none 0 0]∧x1.heap.size≤aB⟩,⟨14,7,true,fun xq wq=>∃ aD,xq=Value.pointer (some ⟨aD,0,none⟩)∧BX 37 wq aD #[.bool false,.slice none 0 0,.bool false,.slice none 0 0,.bool false,.slice none 0 0,.bool false,.slice none 0 0]∧x1.heap.size≤aD⟩,⟨15,8,true,fun xq wq=>∃ aG,xq=Value.pointer (some ⟨aG,0,none⟩)∧BX 37 wq aG #[.bool false,.slice none 0 0,.bool false,.slice none 0 0,.bool false,.slice none 0 0,.bool false,.slice none 0 0]∧x1.heap.size≤aG⟩] 4 (by kernel_rfl) (by kernel_rfl) (show List.Nodup [2,5,8,11,12,13,14,15] by decide) (fun _ _ _ _ e h=>by first | exact ⟨e.trans h.1,h.2⟩ | exact h)
  ⟨(by rintro xq wq wr ⟨s11,A11,n11,c11,t11,B11,m11,d11,s12,A12,n12,c12,t12,B12,m12,d12,e,f0,f1,_⟩ hb; exact ⟨s11,A11,n11,c11,t11,B11,m11,d11,s12,A12,n12,c12,t12,B12,m12,d12,e,(PF.new f0 hb),(PF.new f1 hb),trivial⟩),(by rintro xq wq wr ⟨s13,A13,n13,c13,t13,B13,m13,d13,s14,A14,n14,c14,t14,B14,m14,d14,e,f0,f1,_⟩ hb; exact ⟨s13,A13,n13,c13,t13,B13,m13,d13,s14,A14,n14,c14,t14,B14,m14,d14,e,(PF.new f0 hb),(PF.new f1 hb),trivial⟩),(by rintro xq wq wr ⟨s15,A15,n15,c15,t15,B15,m15,d15,s16,A16,n16,c16,t16,B16,m16,d16,e,f0,f1,_⟩ hb; exact ⟨s15,A15,n15,c15,t15,B15,m15,d15,s16,A16,n16,c16,t16,B16,m16,d16,e,(PF.new f0 hb),(PF.new f1 hb),trivial⟩),(by rintro xq wq wr ⟨s17,A17,n17,c17,t17,B17,m17,d17,s18,A18,n18,c18,t18,B18,m18,d18,e,f0,f1,_⟩ hb; exact ⟨s17,A17,n17,c17,t17,B17,m17,d17,s18,A18,n18,c18,t18,B18,m18,d18,e,(PF.new f0 hb),(PF.new f1 hb),trivial⟩),(by rintro xq wq wr ⟨b,e,f0,f1⟩ hb; exact ⟨b,e,BX.new f0 hb,f1⟩),(by rintro xq wq wr ⟨b,e,f0,f1⟩ hb; exact ⟨b,e,BX.new f0 hb,f1⟩),(by rintro xq wq wr ⟨b,e,f0,f1⟩ hb; exact ⟨b,e,BX.new f0 hb,f1⟩),(by rintro xq wq wr ⟨b,e,f0,f1⟩ hb; exact ⟨b,e,BX.new f0 hb,f1⟩),trivial⟩
  ⟨(fun h=>by cases h),(fun h=>by cases h),(fun h=>by cases h),(fun h=>by cases h),(by rintro _ xq wq ⟨b,e,f0, -⟩; exact ⟨b,e,f0.lt⟩),(by rintro _ xq wq ⟨b,e,f0, -⟩; exact ⟨b,e,f0.lt⟩),(by rintro _ xq wq ⟨b,e,f0, -⟩; exact ⟨b,e,f0.lt⟩),(by rintro _ xq wq ⟨b,e,f0, -⟩; exact ⟨b,e,f0.lt⟩),trivial⟩
  ⟨?_,?_,?_,?_,?_,?_,?_,?_,trivial⟩ (fun vf v hb hf hp=>?_) dY.out
 ·intro v hbv K0 hK0
  (try dsimp only at hK0 ⊢)
  have aC:=hJ hbv
  have hHeld:=aL.out _ aC.out
  clear hbv
  refine wpOp_step rfl (fun K hK=>?_)
  have HK:=hJ hK
  have aO:=hJ hK0
  clear hK hK0
  go_simp
  go_at_call 21
  refine (pof_any ax ay v aY.out.1.1 aY.out.1.2).mono ?_
  rintro e v87 ⟨s11,A11,n11,c11,t11,B11,m11,d11,s12,A12,n12,c12,t12,B12,m12,d12,rfl,hr11,hr12,hb⟩
  go_wp2_with fail
  exact HK.out _ _ (aO.out _ _ ⟨s11,A11,n11,c11,t11,B11,m11,d11,s12,A12,n12,c12,t12,B12,m12,d12,rfl,hr11,hr12,trivial⟩ (fun h=>by cases h) hb (aL.out _ (bt aC.out hb)))
 ·intro v hbv K0 hK0
  (try dsimp only at hK0 ⊢)
  have aC:=hJ hbv
  have hHeld:=aL.out _ aC.out
  clear hbv
  refine wpOp_step rfl (fun K hK=>?_)
  have HK:=hJ hK
  have aO:=hJ hK0
  clear hK hK0
  go_simp
  go_at_call 21
  refine (pof_any bx by' v aY.out.2.1 aY.out.2.2).mono ?_
  rintro e v88 ⟨s13,A13,n13,c13,t13,B13,m13,d13,s14,A14,n14,c14,t14,B14,m14,d14,rfl,hr13,hr14,hb⟩
  go_wp2_with fail
  exact HK.out _ _ (aO.out _ _ ⟨s13,A13,n13,c13,t13,B13,m13,d13,s14,A14,n14,c14,t14,B14,m14,d14,rfl,hr13,hr14,trivial⟩ (fun h=>by cases h) hb (aL.out _ (bt aC.out hb)))
 ·intro v hbv K0 hK0
  (try dsimp only at hK0 ⊢)
  have aC:=hJ hbv
  have hHeld:=aL.out _ aC.out
  clear hbv
  refine wpOp_step rfl (fun K hK=>?_)
  have HK:=hJ hK
  have aO:=hJ hK0
  clear hK hK0
  go_simp
  go_at_call 21
  refine (pof_any cx cy v bP.out.1.1 bP.out.1.2).mono ?_
  rintro e v89 ⟨s15,A15,n15,c15,t15,B15,m15,d15,s16,A16,n16,c16,t16,B16,m16,d16,rfl,hr15,hr16,hb⟩
  go_wp2_with fail
  exact HK.out _ _ (aO.out _ _ ⟨s15,A15,n15,c15,t15,B15,m15,d15,s16,A16,n16,c16,t16,B16,m16,d16,rfl,hr15,hr16,trivial⟩ (fun h=>by cases h) hb (aL.out _ (bt aC.out hb)))
 ·intro v hbv K0 hK0
  (try dsimp only at hK0 ⊢)
  have aC:=hJ hbv
  have hHeld:=aL.out _ aC.out
  clear hbv
  refine wpOp_step rfl (fun K hK=>?_)
  have HK:=hJ hK
  have aO:=hJ hK0
  clear hK hK0
  go_simp
  go_at_call 21
  refine (pof_any dx dy v bP.out.2.1 bP.out.2.2).mono ?_
  rintro e v90 ⟨s17,A17,n17,c17,t17,B17,m17,d17,s18,A18,n18,c18,t18,B18,m18,d18,rfl,hr17,hr18,hb⟩
  go_wp2_with fail
  exact HK.out _ _ (aO.out _ _ ⟨s17,A17,n17,c17,t17,B17,m17,d17,s18,A18,n18,c18,t18,B18,m18,d18,rfl,hr17,hr18,trivial⟩ (fun h=>by cases h) hb (aL.out _ (bt aC.out hb)))
 ·intro v hbv K0 hK0
  (try dsimp only at hK0 ⊢)
  have aC:=hJ hbv
  have hHeld:=aL.out _ aC.out
  clear hbv
  refine wpOp_step rfl (fun K hK=>?_)
  have HK:=hJ hK
  have aO:=hJ hK0
  clear hK hK0
  go_simp
  have hb:=(Below.refl v.heap.size v).alloc (Nat.le_refl _) (.cells #[.bool false,.slice none 0 0,.bool false,.slice none 0 0,.bool false,.slice none 0 0,.bool false,.slice none 0 0] 37)
  exact HK.out _ _ (aO.out _ _ ⟨_,rfl,BX.lit v 37 #[.bool false,.slice none 0 0,.bool false,.slice none 0 0,.bool false,.slice none 0 0,.bool false,.slice none 0 0],aC.out.size⟩ (fun _=>⟨_,rfl,Nat.le_refl _⟩) hb (aL.out _ (bt aC.out hb)))
 ·intro v hbv K0 hK0
  (try dsimp only at hK0 ⊢)
  have aC:=hJ hbv
  have hHeld:=aL.out _ aC.out
  clear hbv
  refine wpOp_step rfl (fun K hK=>?_)
  have HK:=hJ hK
  have aO:=hJ hK0
  clear hK hK0
  go_simp
  have hb:=(Below.refl v.heap.size v).alloc (Nat.le_refl _) (.cells #[.bool false,.slice none 0 0,.bool false,.slice none 0 0,.bool false,.slice none 0 0,.bool false,.slice none 0 0] 37)
  exact HK.out _ _ (aO.out _ _ ⟨_,rfl,BX.lit v 37 #[.bool false,.slice none 0 0,.bool false,.slice none 0 0,.bool false,.slice none 0 0,.bool false,.slice none 0 0],aC.out.size⟩ (fun _=>⟨_,rfl,Nat.le_refl _⟩) hb (aL.out _ (bt aC.out hb)))
 ·intro v hbv K0 hK0
  (try dsimp only at hK0 ⊢)
  have aC:=hJ hbv
  have hHeld:=aL.out _ aC.out
  clear hbv
  refine wpOp_step rfl (fun K hK=>?_)
  have HK:=hJ hK
  have aO:=hJ hK0
  clear hK hK0
  go_simp
  have hb:=(Below.refl v.heap.size v).alloc (Nat.le_refl _) (.cells #[.bool false,.slice none 0 0,.bool false,.slice none 0 0,.bool false,.slice none 0 0,.bool false,.slice none 0 0] 37)
  exact HK.out _ _ (aO.out _ _ ⟨_,rfl,BX.lit v 37 #[.bool false,.slice none 0 0,.bool false,.slice none 0 0,.bool false,.slice none 0 0,.bool false,.slice none 0 0],aC.out.size⟩ (fun _=>⟨_,rfl,Nat.le_refl _⟩) hb (aL.out _ (bt aC.out hb)))
 intro v hbv K0 hK0
 (try dsimp only at hK0 ⊢)
 have aC:=hJ hbv
 have hHeld:=aL.out _ aC.out
 clear hbv
 refine wpOp_step rfl (fun K hK=>?_)
 have HK:=hJ hK
 have aO:=hJ hK0
 clear hK hK0
 go_simp
 have hb:=(Below.refl v.heap.size v).alloc (Nat.le_refl _) (.cells #[.bool false,.slice none 0 0,.bool false,.slice none 0 0,.bool false,.slice none 0 0,.bool false,.slice none 0 0] 37)
 exact HK.out _ _ (aO.out _ _ ⟨_,rfl,BX.lit v 37 #[.bool false,.slice none 0 0,.bool false,.slice none 0 0,.bool false,.slice none 0 0,.bool false,.slice none 0 0],aC.out.size⟩ (fun _=>⟨_,rfl,Nat.le_refl _⟩) hb (aL.out _ (bt aC.out hb)))
 obtain ⟨⟨s11,A11,n11,c11,t11,B11,m11,d11,s12,A12,n12,c12,t12,B12,m12,d12,e2,hz2_0,hz2_1, -⟩,⟨s13,A13,n13,c13,t13,B13,m13,d13,s14,A14,n14,c14,t14,B14,m14,d14,e5,hz5_0,hz5_1, -⟩,⟨s15,A15,n15,c15,t15,B15,m15,d15,s16,A16,n16,c16,t16,B16,m16,d16,e8,hz8_0,hz8_1, -⟩,⟨s17,A17,n17,c17,t17,B17,m17,d17,s18,A18,n18,c18,t18,B18,m18,d18,e11,hz11_0,hz11_1, -⟩,⟨aA,e12,hp12,hg12⟩,⟨aB,e13,hp13,hg13⟩,⟨aD,e14,hp14,hg14⟩,⟨aG,e15,hp15,hg15⟩, -⟩:=hf
 (try dsimp only at e2 e5 e8 e11 e12 e13 e14 e15)
 refine wpAnyH_cast3 ?_ rfl (JF1 s11 A11 n11 c11 t11 B11 m11 d11 s12 A12 n12 c12 t12 B12 m12 d12 s13 A13 n13 c13 t13 B13 m13 d13 s14 A14 n14 c14 t14 B14 m14 d14 s15 A15 n15 c15 t15 B15 m15 d15 s16 A16 n16 c16 t16 B16 m16 d16 s17 A17 n17 c17 t17 B17 m17 d17 s18 A18 n18 c18 t18 B18 m18 d18 aA aB aD aG v (hJ hb) (hJ hz2_0) (hJ hz2_1) (hJ hz5_0) (hJ hz5_1) (hJ hz8_0) (hJ hz8_1) (hJ hz11_0) (hJ hz11_1) (hJ hp12) (hJ hg12) (hJ hp13) (hJ hg13) (hJ (fun e=>hp _ (.tail _ (.tail _ (.tail _ (.tail _ (.head _))))) _ (.tail _ (.tail _ (.tail _ (.tail _ (.tail _ (.head _)))))) (show (12:Nat)≠13 by decide) rfl rfl (by rw [show vf _=_ from e12,show vf _=_ from e13,e]))) (hJ hp14) (hJ hg14) (hJ (fun e=>hp _ (.tail _ (.tail _ (.tail _ (.tail _ (.head _))))) _ (.tail _ (.tail _ (.tail _ (.tail _ (.tail _ (.tail _ (.head _))))))) (show (12:Nat)≠14 by decide) rfl rfl (by rw [show vf _=_ from e12,show vf _=_ from e14,e]))) (hJ (fun e=>hp _ (.tail _ (.tail _ (.tail _ (.tail _ (.tail _ (.head _)))))) _ (.tail _ (.tail _ (.tail _ (.tail _ (.tail _ (.tail _ (.head _))))))) (show (13:Nat)≠14 by decide) rfl rfl (by rw [show vf _=_ from e13,show vf _=_ from e14,e]))) (hJ hp15) (hJ hg15) (hJ (fun e=>hp _ (.tail _ (.tail _ (.tail _ (.tail _ (.head _))))) _ (.tail _ (.tail _ (.tail _ (.tail _ (.tail _ (.tail _ (.tail _ (.head _)))))))) (show (12:Nat)≠15 by decide) rfl rfl (by rw [show vf _=_ from e12,show vf _=_ from e15,e]))) (hJ (fun e=>hp _ (.tail _ (.tail _ (.tail _ (.tail _ (.tail _ (.head _)))))) _ (.tail _ (.tail _ (.tail _ (.tail _ (.tail _ (.tail _ (.tail _ (.head _)))))))) (show (13:Nat)≠15 by decide) rfl rfl (by rw [show vf _=_ from e13,show vf _=_ from e15,e]))) (hJ (fun e=>hp _ (.tail _ (.tail _ (.tail _ (.tail _ (.tail _ (.tail _ (.head _))))))) _ (.tail _ (.tail _ (.tail _ (.tail _ (.tail _ (.tail _ (.tail _ (.head _)))))))) (show (14:Nat)≠15 by decide) rfl rfl (by rw [show vf _=_ from e14,show vf _=_ from e15,e]))))
 simp only [paF,e2,e5,e8,e11,e12,e13,e14,e15]
 (try rfl)
end Go.Proofs.YtdgicnhadecldaaGreat
