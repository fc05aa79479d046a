/- Contracts: Turn, Sector, SideOf. Conditions: as each statement has them. -/
import Derived.Test.YteggneaefggbmaaGreatEA
namespace Go.Proofs.YteggneaefggbmaaGreat
set_option maxRecDepth 100000
set_option maxHeartbeats 12800000
open Go.RowKit
attribute [local go_sem ↓] Go.wp_at_zero Go.wp_at_succ
set_option linter.unusedVariables false
set_option linter.unusedSimpArgs false
theorem turn_any (a b c d:Int) (w:World) :
  Calls Tryz.prog 109 #[.agg #[.int .i64 a,.int .i64 b],.agg #[.int .i64 c,.int .i64 d]] w fun e w'=>e=.returned (.tuple #[.int .i64 (tuV a b c d),.int .i64 (tuE a b c d)])∧Below w.heap.size w w':=by
 obtain ⟨E,hE⟩:=nmz (tuE a b c d)
 have HE:=hJ hE
 clear hE
 obtain ⟨x1,aA⟩:=nmz ((w.alloc (.cells #[.int .i64 a,.int .i64 b] 87)).alloc (.cells #[.int .i64 c,.int .i64 d] 87))
 have aE:=hJ (show Below w.heap.size w x1 by rw [←aA]; exact (((Below.refl _ _).alloc (Nat.le_refl _) _).alloc (by simp only [World.size_alloc]; omega) _))
 have aF:=hJ (show BX 87 x1 w.heap.size #[.int .i64 a,.int .i64 b] by rw [←aA]; exact ((BX.at rfl).alloc _))
 have aG:=hJ (show BX 87 x1 (w.heap.size+1) #[.int .i64 c,.int .i64 d] by rw [←aA]; exact (BX.at (by simp only [World.size_alloc])))
 obtain ⟨aI,aJ⟩:=aF.out.c2 0 1 rfl rfl
 obtain ⟨aK,aL⟩:=aG.out.c2 0 1 rfl rfl
 obtain ⟨x6,aB⟩:=nmz (x1.alloc (.cells #[.int .i64 a,.int .i64 b,.int .i64 c,.int .i64 d] 87))
 have aC:=hJ (show Below x1.heap.size x1 x6 by rw [←aB]; exact ((Below.refl _ _).alloc (Nat.le_refl _) _))
 have aM:=hJ (show BX 87 x6 x1.heap.size #[.int .i64 a,.int .i64 b,.int .i64 c,.int .i64 d] by rw [←aB]; exact (BX.at rfl))
 go_enter Tryz.func109,Tryz.ntmps109
 go_wp2_with fail
 clear aA aI aJ aK aL aB
 refine (dirs_any [(a,b),(c,d)] 2 x1.heap.size x6 rfl (by decide) aM.out).mono ?_
 rw [show fsE diP [(a,b),(c,d)]=E from HE.out]
 rintro e w7 ⟨rfl,hb⟩
 have aD:=hJ hb
 clear hb
 by_cases hE0:E=0
 ·subst hE0
  have HV:=hJ (show tuV a b c d=angV a b c d from if_pos HE.out)
  have HA:=hJ (ang_wraps (di_nk (fs_two HE.out).1) (di_nk (fs_two HE.out).2))
  have aH:=hJ (bt aC.out aD.out)
  have aN:=hJ (BX.new aF.out aH.out)
  obtain ⟨aO,aP⟩:=aN.out.c2 0 1 rfl rfl
  have aQ:=hJ (BX.new aG.out aH.out)
  obtain ⟨aR,aS⟩:=aQ.out.c2 0 1 rfl rfl
  go_wp2_with fail
  clear aO aP aR aS
  refine (angles_any a b c d w7 HA.out).mono ?_
  rintro e w12 ⟨rfl,hb⟩
  have aT:=hJ hb
  clear hb
  have aU:=hJ (bt (bt (bt aE.out aC.out) aD.out) aT.out)
  go_wp2
  go_ret2
  exact ⟨by rw [HV.out,HE.out] <;> rfl,aU.out⟩
 ·have hEz:(E == 0)=false:=by simp [hE0]
  have HV:=hJ (show tuV a b c d=0 from if_neg (by rw [HE.out]; exact hE0))
  clear hE0
  have aV:=hJ (bt (bt aE.out aC.out) aD.out)
  go_wp2
  go_ret2
  exact ⟨by rw [HV.out,HE.out] <;> rfl,aV.out⟩
theorem sideof_any (ax ay bx by' cx cy:Int) (w:World) :
  Calls Tryz.prog 57 #[.agg #[.int .i64 ax,.int .i64 ay],.agg #[.int .i64 bx,.int .i64 by'],.agg #[.int .i64 cx,.int .i64 cy]] w fun e w'=>e=.returned (.tuple #[.int .i64 (soV ax ay bx by' cx cy),.int .i64 (soE ax ay bx by' cx cy)])∧Below w.heap.size w w':=by
 obtain ⟨E,hE⟩:=nmz (soE ax ay bx by' cx cy)
 have HE:=hJ hE
 clear hE
 obtain ⟨x1,aA⟩:=nmz (((w.alloc (.cells #[.int .i64 ax,.int .i64 ay] 87)).alloc (.cells #[.int .i64 bx,.int .i64 by'] 87)).alloc (.cells #[.int .i64 cx,.int .i64 cy] 87))
 have aF:=hJ (show Below w.heap.size w x1 by rw [←aA]; exact ((((Below.refl _ _).alloc (Nat.le_refl _) _).alloc (by simp only [World.size_alloc]; omega) _).alloc (by simp only [World.size_alloc]; omega) _))
 have aG:=hJ (show BX 87 x1 w.heap.size #[.int .i64 ax,.int .i64 ay] by rw [←aA]; exact (((BX.at rfl).alloc _).alloc _))
 have aH:=hJ (show BX 87 x1 (w.heap.size+1) #[.int .i64 bx,.int .i64 by'] by rw [←aA]; exact ((BX.at (by simp only [World.size_alloc])).alloc _))
 have aI:=hJ (show BX 87 x1 (w.heap.size+2) #[.int .i64 cx,.int .i64 cy] by rw [←aA]; exact (BX.at (by simp only [World.size_alloc])))
 obtain ⟨aJ,aK⟩:=aG.out.c2 0 1 rfl rfl
 obtain ⟨aL,aM⟩:=aH.out.c2 0 1 rfl rfl
 obtain ⟨aN,aO⟩:=aI.out.c2 0 1 rfl rfl
 obtain ⟨x8,aB⟩:=nmz (x1.alloc (.cells #[.int .i64 ax,.int .i64 ay,.int .i64 bx,.int .i64 by',.int .i64 cx,.int .i64 cy] 87))
 have aC:=hJ (show Below x1.heap.size x1 x8 by rw [←aB]; exact ((Below.refl _ _).alloc (Nat.le_refl _) _))
 have aP:=hJ (show BX 87 x8 x1.heap.size #[.int .i64 ax,.int .i64 ay,.int .i64 bx,.int .i64 by',.int .i64 cx,.int .i64 cy] by rw [←aB]; exact (BX.at rfl))
 go_enter Tryz.func57,Tryz.ntmps57
 go_wp2_with fail
 clear aA aJ aK aL aM aN aO aB
 refine (valids_any [(ax,ay),(bx,by'),(cx,cy)] 3 x1.heap.size x8 rfl (by decide) aP.out).mono ?_
 rw [show fsE vdP [(ax,ay),(bx,by'),(cx,cy)]=E from HE.out]
 rintro e w9 ⟨rfl,hb⟩
 have aD:=hJ hb
 clear hb
 by_cases hE0:E=0
 ·subst hE0
  have HG:=hJ (g3_ok (vd_nk (fs_cons HE.out).1) (vd_nk (fs_two (fs_cons HE.out).2).1) (vd_nk (fs_two (fs_cons HE.out).2).2))
  have HV:=hJ (show soV ax ay bx by' cx cy=sdV ax ay bx by' cx cy from if_pos HE.out)
  have aE:=hJ (bt aC.out aD.out)
  have aQ:=hJ (BX.new aG.out aE.out)
  obtain ⟨aR,aS⟩:=aQ.out.c2 0 1 rfl rfl
  have aT:=hJ (BX.new aH.out aE.out)
  obtain ⟨aU,aV⟩:=aT.out.c2 0 1 rfl rfl
  have aW:=hJ (BX.new aI.out aE.out)
  obtain ⟨aX,aY⟩:=aW.out.c2 0 1 rfl rfl
  go_wp2_with fail
  clear aR aS aU aV aX aY
  refine (gridside_any ax ay bx by' cx cy w9 HG.out).mono ?_
  rintro e w16 ⟨rfl,hb⟩
  have aZ:=hJ hb
  clear hb
  have bA:=hJ (bt (bt (bt aF.out aC.out) aD.out) aZ.out)
  go_wp2
  go_ret2
  exact ⟨by rw [HV.out,HE.out] <;> rfl,bA.out⟩
 ·have hEz:(E == 0)=false:=by simp [hE0]
  have HV:=hJ (show soV ax ay bx by' cx cy=0 from if_neg (by rw [HE.out]; exact hE0))
  clear hE0
  have bB:=hJ (bt (bt aF.out aC.out) aD.out)
  go_wp2
  go_ret2
  exact ⟨by rw [HV.out,HE.out] <;> rfl,bB.out⟩
theorem nk_lim {k x:Int} (h:Nk k x) (hk:k≤1606938044258990275541962092341162602522202993782792835301376:=by decide):x.natAbs < lim:=by
 refine B2.lim (k:=201) (Nat.lt_of_le_of_lt (m:=1606938044258990275541962092341162602522202993782792835301376) (by have:=h.1; have:=h.2; omega) ?_) (by decide)
 show (1606938044258990275541962092341162602522202993782792835301376:Nat) < 2 ^ 201
 decide
/-- Two integers of the program. -/
def RetPP (x y:Int) (w:World) (e:Ending) (w':World):Prop:=∃ s A n c s' A' n' c',e=.returned (.agg #[.bool s,.slice A n c,.bool s',.slice A' n' c'])∧PI w' s A n c x∧PI w' s' A' n' c' y∧Below w.heap.size w w'
theorem W2_size:(Tryz.prog.info? 190).map (·.size)=some 4:=by kernel_rfl
theorem view_any (ax ay bx by' px py:Int) (w:World) (ha:Nk 1073741824 ax∧Nk 1073741824 ay) (hb:Nk 1073741824 bx∧Nk 1073741824 by') (hp:Nk 1073741824 px∧Nk 1073741824 py) :
  Calls Tryz.prog 131 #[.agg #[.int .i64 ax,.int .i64 ay],.agg #[.int .i64 bx,.int .i64 by'],.agg #[.int .i64 px,.int .i64 py]] w (RetPP (ahV ax ay bx by' px py) (lfV ax ay bx by' px py) w):=by
 have HD:=hJ (show (Nk 2147483648 (ax - px)∧Nk 2147483648 (ay - py))∧(Nk 2147483648 (bx - px)∧Nk 2147483648 (by' - py)) from ⟨⟨nk_diff ha.1 hp.1,nk_diff ha.2 hp.2⟩,nk_diff hb.1 hp.1,nk_diff hb.2 hp.2⟩)
 have HM:=hJ (show (Nk 4611686018427387904 ((ax - px)*(bx - px))∧Nk 4611686018427387904 ((ay - py)*(by' - py)))∧(Nk 4611686018427387904 ((ax - px)*(by' - py))∧Nk 4611686018427387904 ((ay - py)*(bx - px))) from ⟨⟨nk_mul HD.out.1.1 HD.out.2.1,nk_mul HD.out.1.2 HD.out.2.2⟩,nk_mul HD.out.1.1 HD.out.2.2,nk_mul HD.out.1.2 HD.out.2.1⟩)
 clear ha hb hp
 obtain ⟨x1,aV⟩:=nmz ((((w.alloc (.cells #[.int .i64 ax,.int .i64 ay] 87)).alloc (.cells #[.int .i64 bx,.int .i64 by'] 87)).alloc (.cells #[.int .i64 px,.int .i64 py] 87)).alloc (.cells #[.bool false,.slice none 0 0,.bool false,.slice none 0 0] 190))
 have gQ:=hJ (show Below w.heap.size w x1 by rw [←aV]; exact (((((Below.refl _ _).alloc (Nat.le_refl _) _).alloc (by simp only [World.size_alloc]; omega) _).alloc (by simp only [World.size_alloc]; omega) _).alloc (by simp only [World.size_alloc]; omega) _))
 have dS:=hJ (show BX 87 x1 w.heap.size #[.int .i64 ax,.int .i64 ay] by rw [←aV]; exact ((((BX.at rfl).alloc _).alloc _).alloc _))
 have dT:=hJ (show BX 87 x1 (w.heap.size+1) #[.int .i64 bx,.int .i64 by'] by rw [←aV]; exact (((BX.at (by simp only [World.size_alloc])).alloc _).alloc _))
 have dU:=hJ (show BX 87 x1 (w.heap.size+2) #[.int .i64 px,.int .i64 py] by rw [←aV]; exact ((BX.at (by simp only [World.size_alloc])).alloc _))
 have gR:=hJ (show BX 190 x1 (w.heap.size+3) #[.bool false,.slice none 0 0,.bool false,.slice none 0 0] by rw [←aV]; exact (BX.at (by simp only [World.size_alloc])))
 have gS:=hJ (show w.heap.size≤w.heap.size+3 by omega)
 have aF:Hid (∀ w',Below x1.heap.size x1 w'→(fun w':World=>w'.cell? ⟨w.heap.size+2,0,none⟩=some (.int .i64 px)∧w'.cell? ⟨w.heap.size+2,1,none⟩=some (.int .i64 py)∧w'.cell? ⟨w.heap.size,0,none⟩=some (.int .i64 ax)∧w'.cell? ⟨w.heap.size,1,none⟩=some (.int .i64 ay)∧w'.cell? ⟨w.heap.size+1,0,none⟩=some (.int .i64 bx)∧w'.cell? ⟨w.heap.size+1,1,none⟩=some (.int .i64 by')∧Below x1.heap.size x1 w') w'):=hJ (fun w' hb=>⟨(BX.new dU.out hb).cell 0 rfl,(BX.new dU.out hb).cell 1 rfl,(BX.new dS.out hb).cell 0 rfl,(BX.new dS.out hb).cell 1 rfl,(BX.new dT.out hb).cell 0 rfl,(BX.new dT.out hb).cell 1 rfl,hb⟩)
 go_enter Tryz.func131,Tryz.ntmps131
 go_wp2_with fail
 clear aV
 obtain ⟨v2,hv2⟩:=nmz (World.drew x1)
 have bA:=hJ (show Below x1.heap.size x1 v2 by rw [←hv2]; exact (Below.refl _ _).drew)
 refine whd aF hv2 (fun hHeld=>?_)
 clear hv2
 refine tq 0 ?_
 refine tq 1 ?_
 refine tq 3 ?_
 refine tq 4 ?_
 try simp only [PT]
 refine wpAnyH_name (fun F hF a0 ha0 L0 hL0=>?_)
 have aW:∀ (aB:Nat) (aC:Nat) (v:World),Hid (Below x1.heap.size x1 v)→Hid (BX 87 v aB #[.int .i64 0,.int .i64 0])→Hid (x1.heap.size≤aB)→Hid (BX 87 v aC #[.int .i64 0,.int .i64 0])→Hid (x1.heap.size≤aC)→Hid (aB≠aC)→F 2 (Array.setIfInBounds (Array.setIfInBounds (Array.setIfInBounds (Array.setIfInBounds L0 2 true) 5 true) 6 true) 7 true) (Act.put (Act.put (Act.put (Act.put a0 (some 15) (.agg #[.int .i64 (ax - px),.int .i64 (ay - py)])) (some 18) (.agg #[.int .i64 (bx - px),.int .i64 (by' - py)])) (some 7) (.pointer (some ⟨aB,0,none⟩))) (some 8) (.pointer (some ⟨aC,0,none⟩))) v:=by
  intro aB aC v aA aG aM aJ aN aX
  subst hF ha0 hL0
  simp only [PT] at  ⊢
  have hHeld:=aF.out _ aA.out
  refine ryy [8] ?_
  refine .cons rfl (fun K hK=>?_) .nil
  have z3_0:=aG.out.cell 0 rfl
  have y3_0:=aG.out.frozen 0
  have z3_1:=aG.out.cell 1 rfl
  have y3_1:=aG.out.frozen 1
  have z3:=aG.out.lt
  go_simp
  obtain ⟨v3,hV⟩:=nmz (World.setCell (World.setCell v ⟨aB,0,none⟩ (.int .i64 (ax - px))) ⟨aB,1,none⟩ (.int .i64 (ay - py)))
  rw [hV]
  have bY:=hJ (show sto v aB 0 [.int .i64 (ax - px),.int .i64 (ay - py)]=v3 from hV)
  clear hV z3 z3_0 y3_0 z3_1 y3_1
  have dW:=hJ (show Below x1.heap.size x1 v3 by rw [←bY.out]; exact below_sto aA.out aM.out _ _)
  have aY:=hJ (show BX 87 v3 aC #[.int .i64 0,.int .i64 0] by rw [←bY.out]; exact BX.far aJ.out aX.out.symm _ _)
  have gT:=hJ (show BX 87 v3 aB #[.int .i64 (ax - px),.int .i64 (ay - py)] by rw [←bY.out]; exact BX.put aG.out _ _)
  clear hHeld
  refine hK.out _ _ (aF.out _ dW.out) (fun hHeld=>?_)
  clear hK K
  try simp only [PT]
  refine ryy [9] ?_
  refine .cons rfl (fun K hK=>?_) .nil
  have z4_0:=aY.out.cell 0 rfl
  have y4_0:=aY.out.frozen 0
  have z4_1:=aY.out.cell 1 rfl
  have y4_1:=aY.out.frozen 1
  have z4:=aY.out.lt
  go_simp
  obtain ⟨v4,hV⟩:=nmz (World.setCell (World.setCell v3 ⟨aC,0,none⟩ (.int .i64 (bx - px))) ⟨aC,1,none⟩ (.int .i64 (by' - py)))
  rw [hV]
  have bZ:=hJ (show sto v3 aC 0 [.int .i64 (bx - px),.int .i64 (by' - py)]=v4 from hV)
  clear hV z4 z4_0 y4_0 z4_1 y4_1
  have cA:=hJ (show Below x1.heap.size x1 v4 by rw [←bZ.out]; exact below_sto dW.out aN.out _ _)
  have cB:=hJ (show BX 87 v4 aB #[.int .i64 (ax - px),.int .i64 (ay - py)] by rw [←bZ.out]; exact BX.far gT.out aX.out _ _)
  have cC:=hJ (show BX 87 v4 aC #[.int .i64 (bx - px),.int .i64 (by' - py)] by rw [←bZ.out]; exact BX.put aY.out _ _)
  clear hHeld
  refine hK.out _ _ (aF.out _ cA.out) (fun hHeld=>?_)
  clear hK K
  try simp only [PT]
  refine wpAnyH_done (by kernel_rfl) ?_ _
  clear hHeld
  have bF:=hJ (in_lim (nk_lim (nk_add HM.out.1.1 HM.out.1.2)))
  have aH:Hid (∀ w',Below v4.heap.size v4 w'→(fun w':World=>w'.cell? ⟨aB,0,none⟩=some (.int .i64 (ax - px))∧w'.cell? ⟨aC,0,none⟩=some (.int .i64 (bx - px))∧w'.cell? ⟨aB,1,none⟩=some (.int .i64 (ay - py))∧w'.cell? ⟨aC,1,none⟩=some (.int .i64 (by' - py))∧Below v4.heap.size v4 w') w'):=hJ (fun w' hb=>⟨(BX.new cB.out hb).cell 0 rfl,(BX.new cC.out hb).cell 0 rfl,(BX.new cB.out hb).cell 1 rfl,(BX.new cC.out hb).cell 1 rfl,hb⟩)
  go_wp2_with fail
  obtain ⟨v7,hv7⟩:=nmz (World.drew v4)
  have cD:=hJ (show Below v4.heap.size v4 v7 by rw [←hv7]; exact (Below.refl _ _).drew)
  refine whd aH hv7 (fun hHeld=>?_)
  clear hv7
  refine tq 0 ?_
  refine tq 1 ?_
  refine tq 2 ?_
  refine tq 3 ?_
  try simp only [PT]
  refine tk 4 (.int .i64 ((ax - px)*(bx - px))) ?_ ?_
  ·intro w hSw
   (try dsimp only at hSw)
   go_simp
   rw [i6_wrap (nk_i6 HM.out.1.1 (by decide))]
  refine tq 6 ?_
  refine tq 7 ?_
  refine tq 8 ?_
  refine tq 9 ?_
  try simp only [PT]
  refine tk 10 (.int .i64 ((ay - py)*(by' - py))) ?_ ?_
  ·intro w hSw
   (try dsimp only at hSw)
   go_simp
   rw [i6_wrap (nk_i6 HM.out.1.2 (by decide))]
  try simp only [PT]
  refine wpAnyH_name (fun F hF a0 ha0 L0 hL0=>?_)
  have bG:∀ (s11:Bool) (A11:Option Addr) (n11:Nat) (c11:Nat) (s12:Bool) (A12:Option Addr) (n12:Nat) (c12:Nat) (s14:Bool) (A14:Option Addr) (n14:Nat) (c14:Nat) (aD:Nat) (v:World),Hid (Below v4.heap.size v4 v)→Hid (PI v s11 A11 n11 c11 ((ax - px)*(bx - px)))→Hid (PI v s12 A12 n12 c12 ((ay - py)*(by' - py)))→Hid (PI v s14 A14 n14 c14 (((ax - px)*(bx - px))+((ay - py)*(by' - py))))→Hid (BX 25 v aD #[.bool false,.slice none 0 0])→Hid (v4.heap.size≤aD)→F 2 (Array.setIfInBounds (Array.setIfInBounds (Array.setIfInBounds (Array.setIfInBounds (Array.setIfInBounds (Array.setIfInBounds (Array.setIfInBounds L0 5 true) 11 true) 12 true) 16 true) 13 true) 14 true) 15 true) (Act.put (Act.put (Act.put (Act.put (Act.put (Act.put (Act.put a0 (some 25) (.agg #[.bool s11,.slice A11 n11 c11])) (some 31) (.agg #[.bool s12,.slice A12 n12 c12])) (some 32) (.tuple #[.agg #[.bool s14,.slice A14 n14 c14],.int .i64 0])) (some 9) (.pointer (some ⟨aD,0,none⟩))) (some 19) (.tuple #[.agg #[.bool s14,.slice A14 n14 c14],.int .i64 0])) (some 33) (.agg #[.bool s14,.slice A14 n14 c14])) (some 34) (.int .i64 0)) v:=by
   intro s11 A11 n11 c11 s12 A12 n12 c12 s14 A14 n14 c14 aD v aA aK aQ cE aO aT
   subst hF ha0 hL0
   simp only [PT] at  ⊢
   have hHeld:=aH.out _ aA.out
   refine ryy [17] ?_
   refine .cons rfl (fun K hK=>?_) .nil
   have z8_0:=aO.out.cell 0 rfl
   have y8_0:=aO.out.frozen 0
   have z8_1:=aO.out.cell 1 rfl
   have y8_1:=aO.out.frozen 1
   have z8:=aO.out.lt
   go_simp
   obtain ⟨v8,hV⟩:=nmz (World.setCell (World.setCell v ⟨aD,0,none⟩ (.bool s14)) ⟨aD,1,none⟩ (.slice A14 n14 c14))
   rw [hV]
   have cF:=hJ (show sto v aD 0 [.bool s14,.slice A14 n14 c14]=v8 from hV)
   clear hV z8 z8_0 y8_0 z8_1 y8_1
   have bB:=hJ (show Below v4.heap.size v4 v8 by rw [←cF.out]; exact below_sto aA.out aT.out _ _)
   have gU:=hJ (show PI v8 s14 A14 n14 c14 (((ax - px)*(bx - px))+((ay - py)*(by' - py))) by rw [←cF.out]; exact PIo.sto cE.out aO.out rfl _ _)
   have gV:=hJ (show BX 25 v8 aD #[.bool s14,.slice A14 n14 c14] by rw [←cF.out]; exact BX.put aO.out _ _)
   clear hHeld
   refine hK.out _ _ (aH.out _ bB.out) (fun hHeld=>?_)
   clear hK K
   refine tq 18 ?_
   try simp only [PT]
   refine wpAnyH_done (by kernel_rfl) ?_ _
   clear hHeld
   have bH:=hJ (in_lim (nk_lim (nk_sub HM.out.2.1 HM.out.2.2)))
   have dX:=hJ (BX.new cB.out bB.out)
   have dY:=hJ (BX.new cC.out bB.out)
   have aI:Hid (∀ w',Below v8.heap.size v8 w'→(fun w':World=>w'.cell? ⟨aB,0,none⟩=some (.int .i64 (ax - px))∧w'.cell? ⟨aC,1,none⟩=some (.int .i64 (by' - py))∧w'.cell? ⟨aB,1,none⟩=some (.int .i64 (ay - py))∧w'.cell? ⟨aC,0,none⟩=some (.int .i64 (bx - px))∧Below v8.heap.size v8 w') w'):=hJ (fun w' hb=>⟨(BX.new dX.out hb).cell 0 rfl,(BX.new dY.out hb).cell 1 rfl,(BX.new dX.out hb).cell 1 rfl,(BX.new dY.out hb).cell 0 rfl,hb⟩)
   go_wp2_with fail
   obtain ⟨v10,hv10⟩:=nmz (World.drew v8)
   have cG:=hJ (show Below v8.heap.size v8 v10 by rw [←hv10]; exact (Below.refl _ _).drew)
   refine whd aI hv10 (fun hHeld=>?_)
   clear hv10
   refine tq 0 ?_
   refine tq 1 ?_
   refine tq 2 ?_
   refine tq 3 ?_
   try simp only [PT]
   refine tk 4 (.int .i64 ((ax - px)*(by' - py))) ?_ ?_
   ·intro w hSw
    (try dsimp only at hSw)
    go_simp
    rw [i6_wrap (nk_i6 HM.out.2.1 (by decide))]
   refine tq 6 ?_
   refine tq 7 ?_
   refine tq 8 ?_
   refine tq 9 ?_
   try simp only [PT]
   refine tk 10 (.int .i64 ((ay - py)*(bx - px))) ?_ ?_
   ·intro w hSw
    (try dsimp only at hSw)
    go_simp
    rw [i6_wrap (nk_i6 HM.out.2.2 (by decide))]
   try simp only [PT]
   refine wpAnyH_name (fun F hF a0 ha0 L0 hL0=>?_)
   have bJ:∀ (s15:Bool) (A15:Option Addr) (n15:Nat) (c15:Nat) (s16:Bool) (A16:Option Addr) (n16:Nat) (c16:Nat) (s18:Bool) (A18:Option Addr) (n18:Nat) (c18:Nat) (aE:Nat) (v:World),Hid (Below v8.heap.size v8 v)→Hid (PI v s15 A15 n15 c15 ((ax - px)*(by' - py)))→Hid (PI v s16 A16 n16 c16 ((ay - py)*(bx - px)))→Hid (PI v s18 A18 n18 c18 (((ax - px)*(by' - py)) - ((ay - py)*(bx - px))))→Hid (BX 25 v aE #[.bool false,.slice none 0 0])→Hid (v8.heap.size≤aE)→F 2 (Array.setIfInBounds (Array.setIfInBounds (Array.setIfInBounds (Array.setIfInBounds (Array.setIfInBounds (Array.setIfInBounds (Array.setIfInBounds L0 5 true) 11 true) 12 true) 16 true) 13 true) 14 true) 15 true) (Act.put (Act.put (Act.put (Act.put (Act.put (Act.put (Act.put a0 (some 41) (.agg #[.bool s15,.slice A15 n15 c15])) (some 47) (.agg #[.bool s16,.slice A16 n16 c16])) (some 48) (.tuple #[.agg #[.bool s18,.slice A18 n18 c18],.int .i64 0])) (some 11) (.pointer (some ⟨aE,0,none⟩))) (some 35) (.tuple #[.agg #[.bool s18,.slice A18 n18 c18],.int .i64 0])) (some 49) (.agg #[.bool s18,.slice A18 n18 c18])) (some 50) (.int .i64 0)) v:=by
    intro s15 A15 n15 c15 s16 A16 n16 c16 s18 A18 n18 c18 aE v aA aL aR cH aP aU
    subst hF ha0 hL0
    simp only [PT] at  ⊢
    have hHeld:=aI.out _ aA.out
    refine ryy [17] ?_
    refine .cons rfl (fun K hK=>?_) .nil
    have z11_0:=aP.out.cell 0 rfl
    have y11_0:=aP.out.frozen 0
    have z11_1:=aP.out.cell 1 rfl
    have y11_1:=aP.out.frozen 1
    have z11:=aP.out.lt
    go_simp
    obtain ⟨v11,hV⟩:=nmz (World.setCell (World.setCell v ⟨aE,0,none⟩ (.bool s18)) ⟨aE,1,none⟩ (.slice A18 n18 c18))
    rw [hV]
    have cI:=hJ (show sto v aE 0 [.bool s18,.slice A18 n18 c18]=v11 from hV)
    clear hV z11 z11_0 y11_0 z11_1 y11_1
    have bC:=hJ (show Below v8.heap.size v8 v11 by rw [←cI.out]; exact below_sto aA.out aU.out _ _)
    have gW:=hJ (show PI v11 s18 A18 n18 c18 (((ax - px)*(by' - py)) - ((ay - py)*(bx - px))) by rw [←cI.out]; exact PIo.sto cH.out aP.out rfl _ _)
    have gX:=hJ (show BX 25 v11 aE #[.bool s18,.slice A18 n18 c18] by rw [←cI.out]; exact BX.put aP.out _ _)
    clear hHeld
    refine hK.out _ _ (aI.out _ bC.out) (fun hHeld=>?_)
    clear hK K
    refine tq 18 ?_
    try simp only [PT]
    refine wpAnyH_done (by kernel_rfl) ?_ _
    clear hHeld
    have gY:=hJ (BX.new gV.out bC.out)
    obtain ⟨gZ,hA⟩:=gY.out.c2 0 1 rfl rfl
    obtain ⟨hB,hC⟩:=gX.out.c2 0 1 rfl rfl
    have hD:=hJ (bt (bt cA.out bB.out) bC.out)
    have aS:=hJ (BX.new gR.out hD.out)
    have hE:=aS.out.frozen 0
    have hG:=aS.out.cell 0 rfl
    have hH:=aS.out.frozen 1
    have hI:=aS.out.cell 1 rfl
    have hL:=aS.out.frozen 2
    have hM:=aS.out.cell 2 rfl
    have hN:=aS.out.frozen 3
    have hO:=aS.out.cell 3 rfl
    obtain ⟨x17,dZ⟩:=nmz (World.setCell (World.setCell (World.setCell (World.setCell v11 ⟨w.heap.size+3,0,none⟩ (.bool s14)) ⟨w.heap.size+3,1,none⟩ (.slice A14 n14 c14)) ⟨w.heap.size+3,2,none⟩ (.bool s18)) ⟨w.heap.size+3,3,none⟩ (.slice A18 n18 c18))
    have bK:=hJ (show sto v11 (w.heap.size+3) 0 [.bool s14,.slice A14 n14 c14,.bool s18,.slice A18 n18 c18]=x17 from dZ)
    have hP:=hJ (show BX 190 x17 (w.heap.size+3) #[.bool s14,.slice A14 n14 c14,.bool s18,.slice A18 n18 c18] by rw [←bK.out]; exact BX.put aS.out _ _)
    have hQ:=hJ (show Below w.heap.size w x17 by rw [←bK.out]; exact below_sto (bt (bt (bt gQ.out cA.out) bB.out) bC.out) gS.out _ _)
    have hR:=hJ (PIo.new gU.out bC.out)
    have hS:=hJ (show PI x17 s14 A14 n14 c14 (((ax - px)*(bx - px))+((ay - py)*(by' - py))) by rw [←bK.out]; exact PIo.sto hR.out aS.out rfl _ _)
    have hT:=hJ (show PI x17 s18 A18 n18 c18 (((ax - px)*(by' - py)) - ((ay - py)*(bx - px))) by rw [←bK.out]; exact PIo.sto gW.out aS.out rfl _ _)
    go_wp2
    clear gZ hA hB hC hE hG hH hI hL hM hN hO dZ
    exact bodyPost_ret (results_cell_row rfl _ _ _ _ _ _ _ rfl hP.out Tryz.underlying190 rfl W2_size) rfl ⟨s14,A14,n14,c14,s18,A18,n18,c18,rfl,hS.out,hT.out,hQ.out⟩
   have eA:∀ (s15:Bool) (A15:Option Addr) (n15:Nat) (c15:Nat) (s16:Bool) (A16:Option Addr) (n16:Nat) (c16:Nat) (s18:Bool) (A18:Option Addr) (n18:Nat) (c18:Nat) (v:World),Hid (Below v8.heap.size v8 v)→Hid (PI v s15 A15 n15 c15 ((ax - px)*(by' - py)))→Hid (PI v s16 A16 n16 c16 ((ay - py)*(bx - px)))→Hid (PI v s18 A18 n18 c18 (((ax - px)*(by' - py)) - ((ay - py)*(bx - px))))→F 3 (Array.setIfInBounds (Array.setIfInBounds (Array.setIfInBounds (Array.setIfInBounds (Array.setIfInBounds (Array.setIfInBounds L0 5 true) 11 true) 12 true) 13 true) 14 true) 15 true) (Act.put (Act.put (Act.put (Act.put (Act.put (Act.put a0 (some 41) (.agg #[.bool s15,.slice A15 n15 c15])) (some 47) (.agg #[.bool s16,.slice A16 n16 c16])) (some 48) (.tuple #[.agg #[.bool s18,.slice A18 n18 c18],.int .i64 0])) (some 35) (.tuple #[.agg #[.bool s18,.slice A18 n18 c18],.int .i64 0])) (some 49) (.agg #[.bool s18,.slice A18 n18 c18])) (some 50) (.int .i64 0)) v:=by
    intro s15 A15 n15 c15 s16 A16 n16 c16 s18 A18 n18 c18 v aA aL aR cH
    subst hF ha0 hL0
    simp only [PT] at bJ ⊢
    have hHeld:=aI.out _ aA.out
    refine ryy [16] ?_
    refine .cons rfl (fun K hK=>?_) .nil
    go_simp
    have bD:=hJ ((Below.refl v.heap.size v).alloc (Nat.le_refl _) (.cells #[.bool false,.slice none 0 0] 25))
    have cJ:=hJ (BX.lit v 25 #[.bool false,.slice none 0 0])
    obtain ⟨v18,hV⟩:=nmz (World.alloc v (.cells #[.bool false,.slice none 0 0] 25))
    obtain ⟨aE,hg⟩:=nmz (v.heap.size)
    rw [hV] at bD cJ ⊢
    rw [hg] at cJ ⊢
    have hU:=hJ (show v8.heap.size≤aE by rw [←hg]; exact aA.out.size)
    clear hV hg
    have eB:=hJ (bt aA.out bD.out)
    have hW:=hJ (PIo.new aL.out bD.out)
    have hX:=hJ (PIo.new aR.out bD.out)
    have hY:=hJ (PIo.new cH.out bD.out)
    clear hHeld
    refine hK.out _ _ (aI.out _ eB.out) (fun hHeld=>?_)
    clear hK K
    try simp only [PT]
    exact wpAnyH_cast (by kernel_rfl) (bJ s15 A15 n15 c15 s16 A16 n16 c16 s18 A18 n18 c18 aE v18 eB hW hX hY cJ hU)
   have bL:∀ (s15:Bool) (A15:Option Addr) (n15:Nat) (c15:Nat) (s16:Bool) (A16:Option Addr) (n16:Nat) (c16:Nat) (aE:Nat) (v:World),Hid (Below v8.heap.size v8 v)→Hid (PI v s15 A15 n15 c15 ((ax - px)*(by' - py)))→Hid (PI v s16 A16 n16 c16 ((ay - py)*(bx - px)))→Hid (BX 25 v aE #[.bool false,.slice none 0 0])→Hid (v8.heap.size≤aE)→F 6 (Array.setIfInBounds (Array.setIfInBounds (Array.setIfInBounds L0 5 true) 11 true) 16 true) (Act.put (Act.put (Act.put a0 (some 41) (.agg #[.bool s15,.slice A15 n15 c15])) (some 47) (.agg #[.bool s16,.slice A16 n16 c16])) (some 11) (.pointer (some ⟨aE,0,none⟩))) v:=by
    intro s15 A15 n15 c15 s16 A16 n16 c16 aE v aA aL aR aP aU
    subst hF ha0 hL0
    simp only [PT] at bJ ⊢
    have hHeld:=aI.out _ aA.out
    refine ryy [12] ?_
    refine .cons rfl (fun K hK=>?_) .nil
    go_simp
    go_at_call 130
    refine (psub_any ((ax - px)*(by' - py)) ((ay - py)*(bx - px)) s15 s16 A15 A16 n15 c15 n16 c16 v aL.out aR.out (Nat.le_trans (plim aL.out (nk_lim HM.out.2.1)) (by decide)) (Nat.le_trans (plim aR.out (nk_lim HM.out.2.2)) (by decide)) (nk_lim HM.out.2.1) (nk_lim HM.out.2.2)).mono ?_
    rw [bH.out.1,bH.out.2]
    rintro e v19 ⟨s18,A18,n18,c18,rfl,hr18,hb⟩
    have bM:=hJ hb
    have hZ:=hJ hr18
    clear hb hr18
    go_wp2_with fail
    have eC:=hJ (bt aA.out bM.out)
    have iA:=hJ (PIo.new aL.out bM.out)
    have iB:=hJ (PIo.new aR.out bM.out)
    have iC:=hJ (BX.new aP.out bM.out)
    clear hHeld
    refine hK.out _ _ (aI.out _ eC.out) (fun hHeld=>?_)
    clear hK K
    refine tq 13 ?_
    refine tq 14 ?_
    refine tq 15 ?_
    try simp only [PT]
    exact wpAnyH_cast (by kernel_rfl) (bJ s15 A15 n15 c15 s16 A16 n16 c16 s18 A18 n18 c18 aE v19 eC iA iB hZ iC aU)
   have eD:∀ (s15:Bool) (A15:Option Addr) (n15:Nat) (c15:Nat) (s16:Bool) (A16:Option Addr) (n16:Nat) (c16:Nat) (v:World),Hid (Below v8.heap.size v8 v)→Hid (PI v s15 A15 n15 c15 ((ax - px)*(by' - py)))→Hid (PI v s16 A16 n16 c16 ((ay - py)*(bx - px)))→F 7 (Array.setIfInBounds (Array.setIfInBounds L0 5 true) 11 true) (Act.put (Act.put a0 (some 41) (.agg #[.bool s15,.slice A15 n15 c15])) (some 47) (.agg #[.bool s16,.slice A16 n16 c16])) v:=by
    intro s15 A15 n15 c15 s16 A16 n16 c16 v aA aL aR
    subst hF ha0 hL0
    simp only [PT] at eA bL ⊢
    have hHeld:=aI.out _ aA.out
    refine ryy [12,16] ?_
    refine .cons rfl (fun K hK=>?_) ?_
    go_simp
    go_at_call 130
    refine (psub_any ((ax - px)*(by' - py)) ((ay - py)*(bx - px)) s15 s16 A15 A16 n15 c15 n16 c16 v aL.out aR.out (Nat.le_trans (plim aL.out (nk_lim HM.out.2.1)) (by decide)) (Nat.le_trans (plim aR.out (nk_lim HM.out.2.2)) (by decide)) (nk_lim HM.out.2.1) (nk_lim HM.out.2.2)).mono ?_
    rw [bH.out.1,bH.out.2]
    rintro e v20 ⟨s18,A18,n18,c18,rfl,hr18,hb⟩
    have cK:=hJ hb
    have iD:=hJ hr18
    clear hb hr18
    go_wp2_with fail
    have eE:=hJ (bt aA.out cK.out)
    have iE:=hJ (PIo.new aL.out cK.out)
    have iF:=hJ (PIo.new aR.out cK.out)
    clear hHeld
    refine hK.out _ _ (aI.out _ eE.out) (fun hHeld=>?_)
    clear hK K
    refine tq 13 ?_
    refine tq 14 ?_
    refine tq 15 ?_
    try simp only [PT]
    exact wpAnyH_cast (by kernel_rfl) (eA s15 A15 n15 c15 s16 A16 n16 c16 s18 A18 n18 c18 v20 eE iE iF iD)
    refine .cons rfl (fun K hK=>?_) .nil
    go_simp
    have bN:=hJ ((Below.refl v.heap.size v).alloc (Nat.le_refl _) (.cells #[.bool false,.slice none 0 0] 25))
    have cL:=hJ (BX.lit v 25 #[.bool false,.slice none 0 0])
    obtain ⟨v21,hV⟩:=nmz (World.alloc v (.cells #[.bool false,.slice none 0 0] 25))
    obtain ⟨aE,hg⟩:=nmz (v.heap.size)
    rw [hV] at bN cL ⊢
    rw [hg] at cL ⊢
    have iG:=hJ (show v8.heap.size≤aE by rw [←hg]; exact aA.out.size)
    clear hV hg
    have eF:=hJ (bt aA.out bN.out)
    have iH:=hJ (PIo.new aL.out bN.out)
    have iI:=hJ (PIo.new aR.out bN.out)
    clear hHeld
    refine hK.out _ _ (aI.out _ eF.out) (fun hHeld=>?_)
    clear hK K
    try simp only [PT]
    exact wpAnyH_cast (by kernel_rfl) (bL s15 A15 n15 c15 s16 A16 n16 c16 aE v21 eF iH iI cL iG)
   have bO:∀ (s15:Bool) (A15:Option Addr) (n15:Nat) (c15:Nat) (aE:Nat) (v:World),Hid (Below v8.heap.size v8 v)→Hid (PI v s15 A15 n15 c15 ((ax - px)*(by' - py)))→Hid (BX 25 v aE #[.bool false,.slice none 0 0])→Hid (v8.heap.size≤aE)→F 7 (Array.setIfInBounds (Array.setIfInBounds L0 5 true) 16 true) (Act.put (Act.put a0 (some 41) (.agg #[.bool s15,.slice A15 n15 c15])) (some 11) (.pointer (some ⟨aE,0,none⟩))) v:=by
    intro s15 A15 n15 c15 aE v aA aL aP aU
    subst hF ha0 hL0
    simp only [PT] at bL ⊢
    have hHeld:=aI.out _ aA.out
    refine ryy [11] ?_
    refine .cons rfl (fun K hK=>?_) .nil
    go_simp
    go_at_call 41
    refine (from_any ((ay - py)*(bx - px)) v (i6_wf (nk_i6 HM.out.2.2 (by decide)))).mono ?_
    rintro e v22 ⟨s16,A16,n16,c16,rfl,hr16,hb⟩
    have cM:=hJ hb
    have iJ:=hJ hr16
    clear hb hr16
    go_wp2_with fail
    have eG:=hJ (bt aA.out cM.out)
    have iK:=hJ (PIo.new aL.out cM.out)
    have iL:=hJ (BX.new aP.out cM.out)
    clear hHeld
    refine hK.out _ _ (aI.out _ eG.out) (fun hHeld=>?_)
    clear hK K
    try simp only [PT]
    exact wpAnyH_cast (by kernel_rfl) (bL s15 A15 n15 c15 s16 A16 n16 c16 aE v22 eG iK iJ iL aU)
   have eH:∀ (s15:Bool) (A15:Option Addr) (n15:Nat) (c15:Nat) (v:World),Hid (Below v8.heap.size v8 v)→Hid (PI v s15 A15 n15 c15 ((ax - px)*(by' - py)))→F 8 (Array.setIfInBounds L0 5 true) (Act.put a0 (some 41) (.agg #[.bool s15,.slice A15 n15 c15])) v:=by
    intro s15 A15 n15 c15 v aA aL
    subst hF ha0 hL0
    simp only [PT] at eD bO ⊢
    have hHeld:=aI.out _ aA.out
    refine ryy [11,16] ?_
    refine .cons rfl (fun K hK=>?_) ?_
    go_simp
    go_at_call 41
    refine (from_any ((ay - py)*(bx - px)) v (i6_wf (nk_i6 HM.out.2.2 (by decide)))).mono ?_
    rintro e v23 ⟨s16,A16,n16,c16,rfl,hr16,hb⟩
    have eI:=hJ hb
    have iM:=hJ hr16
    clear hb hr16
    go_wp2_with fail
    have eJ:=hJ (bt aA.out eI.out)
    have iN:=hJ (PIo.new aL.out eI.out)
    clear hHeld
    refine hK.out _ _ (aI.out _ eJ.out) (fun hHeld=>?_)
    clear hK K
    try simp only [PT]
    exact wpAnyH_cast (by kernel_rfl) (eD s15 A15 n15 c15 s16 A16 n16 c16 v23 eJ iN iM)
    refine .cons rfl (fun K hK=>?_) .nil
    go_simp
    have cN:=hJ ((Below.refl v.heap.size v).alloc (Nat.le_refl _) (.cells #[.bool false,.slice none 0 0] 25))
    have cO:=hJ (BX.lit v 25 #[.bool false,.slice none 0 0])
    obtain ⟨v24,hV⟩:=nmz (World.alloc v (.cells #[.bool false,.slice none 0 0] 25))
    obtain ⟨aE,hg⟩:=nmz (v.heap.size)
    rw [hV] at cN cO ⊢
    rw [hg] at cO ⊢
    have iO:=hJ (show v8.heap.size≤aE by rw [←hg]; exact aA.out.size)
    clear hV hg
    have eK:=hJ (bt aA.out cN.out)
    have iP:=hJ (PIo.new aL.out cN.out)
    clear hHeld
    refine hK.out _ _ (aI.out _ eK.out) (fun hHeld=>?_)
    clear hK K
    try simp only [PT]
    exact wpAnyH_cast (by kernel_rfl) (bO s15 A15 n15 c15 aE v24 eK iP cO iO)
   have eL:∀ (aE:Nat) (v:World),Hid (Below v8.heap.size v8 v)→Hid (BX 25 v aE #[.bool false,.slice none 0 0])→Hid (v8.heap.size≤aE)→F 8 (Array.setIfInBounds L0 16 true) (Act.put a0 (some 11) (.pointer (some ⟨aE,0,none⟩))) v:=by
    intro aE v aA aP aU
    subst hF ha0 hL0
    simp only [PT] at bO ⊢
    have hHeld:=aI.out _ aA.out
    refine ryy [5] ?_
    refine .cons rfl (fun K hK=>?_) .nil
    go_simp
    go_at_call 41
    refine (from_any ((ax - px)*(by' - py)) v (i6_wf (nk_i6 HM.out.2.1 (by decide)))).mono ?_
    rintro e v25 ⟨s15,A15,n15,c15,rfl,hr15,hb⟩
    have eM:=hJ hb
    have iQ:=hJ hr15
    clear hb hr15
    go_wp2_with fail
    have eN:=hJ (bt aA.out eM.out)
    have iR:=hJ (BX.new aP.out eM.out)
    clear hHeld
    refine hK.out _ _ (aI.out _ eN.out) (fun hHeld=>?_)
    clear hK K
    try simp only [PT]
    exact wpAnyH_cast (by kernel_rfl) (bO s15 A15 n15 c15 aE v25 eN iQ iR aU)
   subst hF ha0 hL0
   simp only [PT] at eH eL
   refine ryy [5,16] ?_
   refine .cons rfl (fun K hK=>?_) ?_
   go_simp
   go_at_call 41
   refine (from_any ((ax - px)*(by' - py)) v10 (i6_wf (nk_i6 HM.out.2.1 (by decide)))).mono ?_
   rintro e v26 ⟨s15,A15,n15,c15,rfl,hr15,hb⟩
   have iS:=hJ hb
   have iT:=hJ hr15
   clear hb hr15
   go_wp2_with fail
   have eO:=hJ (bt cG.out iS.out)
   clear hHeld
   refine hK.out _ _ (aI.out _ eO.out) (fun hHeld=>?_)
   clear hK K
   try simp only [PT]
   exact wpAnyH_cast (by kernel_rfl) (eH s15 A15 n15 c15 v26 eO iT)
   refine .cons rfl (fun K hK=>?_) .nil
   go_simp
   have eP:=hJ ((Below.refl v10.heap.size v10).alloc (Nat.le_refl _) (.cells #[.bool false,.slice none 0 0] 25))
   have cP:=hJ (BX.lit v10 25 #[.bool false,.slice none 0 0])
   obtain ⟨v27,hV⟩:=nmz (World.alloc v10 (.cells #[.bool false,.slice none 0 0] 25))
   obtain ⟨aE,hg⟩:=nmz (v10.heap.size)
   rw [hV] at eP cP ⊢
   rw [hg] at cP ⊢
   have iU:=hJ (show v8.heap.size≤aE by rw [←hg]; exact cG.out.size)
   clear hV hg
   have eQ:=hJ (bt cG.out eP.out)
   clear hHeld
   refine hK.out _ _ (aI.out _ eQ.out) (fun hHeld=>?_)
   clear hK K
   try simp only [PT]
   exact wpAnyH_cast (by kernel_rfl) (eL aE v27 eQ cP iU)
  have eR:∀ (s11:Bool) (A11:Option Addr) (n11:Nat) (c11:Nat) (s12:Bool) (A12:Option Addr) (n12:Nat) (c12:Nat) (s14:Bool) (A14:Option Addr) (n14:Nat) (c14:Nat) (v:World),Hid (Below v4.heap.size v4 v)→Hid (PI v s11 A11 n11 c11 ((ax - px)*(bx - px)))→Hid (PI v s12 A12 n12 c12 ((ay - py)*(by' - py)))→Hid (PI v s14 A14 n14 c14 (((ax - px)*(bx - px))+((ay - py)*(by' - py))))→F 3 (Array.setIfInBounds (Array.setIfInBounds (Array.setIfInBounds (Array.setIfInBounds (Array.setIfInBounds (Array.setIfInBounds L0 5 true) 11 true) 12 true) 13 true) 14 true) 15 true) (Act.put (Act.put (Act.put (Act.put (Act.put (Act.put a0 (some 25) (.agg #[.bool s11,.slice A11 n11 c11])) (some 31) (.agg #[.bool s12,.slice A12 n12 c12])) (some 32) (.tuple #[.agg #[.bool s14,.slice A14 n14 c14],.int .i64 0])) (some 19) (.tuple #[.agg #[.bool s14,.slice A14 n14 c14],.int .i64 0])) (some 33) (.agg #[.bool s14,.slice A14 n14 c14])) (some 34) (.int .i64 0)) v:=by
   intro s11 A11 n11 c11 s12 A12 n12 c12 s14 A14 n14 c14 v aA aK aQ cE
   subst hF ha0 hL0
   simp only [PT] at bG ⊢
   have hHeld:=aH.out _ aA.out
   refine ryy [16] ?_
   refine .cons rfl (fun K hK=>?_) .nil
   go_simp
   have bE:=hJ ((Below.refl v.heap.size v).alloc (Nat.le_refl _) (.cells #[.bool false,.slice none 0 0] 25))
   have cQ:=hJ (BX.lit v 25 #[.bool false,.slice none 0 0])
   obtain ⟨v28,hV⟩:=nmz (World.alloc v (.cells #[.bool false,.slice none 0 0] 25))
   obtain ⟨aD,hg⟩:=nmz (v.heap.size)
   rw [hV] at bE cQ ⊢
   rw [hg] at cQ ⊢
   have iV:=hJ (show v4.heap.size≤aD by rw [←hg]; exact aA.out.size)
   clear hV hg
   have eS:=hJ (bt aA.out bE.out)
   have iW:=hJ (PIo.new aK.out bE.out)
   have iX:=hJ (PIo.new aQ.out bE.out)
   have iY:=hJ (PIo.new cE.out bE.out)
   clear hHeld
   refine hK.out _ _ (aH.out _ eS.out) (fun hHeld=>?_)
   clear hK K
   try simp only [PT]
   exact wpAnyH_cast (by kernel_rfl) (bG s11 A11 n11 c11 s12 A12 n12 c12 s14 A14 n14 c14 aD v28 eS iW iX iY cQ iV)
  have bP:∀ (s11:Bool) (A11:Option Addr) (n11:Nat) (c11:Nat) (s12:Bool) (A12:Option Addr) (n12:Nat) (c12:Nat) (aD:Nat) (v:World),Hid (Below v4.heap.size v4 v)→Hid (PI v s11 A11 n11 c11 ((ax - px)*(bx - px)))→Hid (PI v s12 A12 n12 c12 ((ay - py)*(by' - py)))→Hid (BX 25 v aD #[.bool false,.slice none 0 0])→Hid (v4.heap.size≤aD)→F 6 (Array.setIfInBounds (Array.setIfInBounds (Array.setIfInBounds L0 5 true) 11 true) 16 true) (Act.put (Act.put (Act.put a0 (some 25) (.agg #[.bool s11,.slice A11 n11 c11])) (some 31) (.agg #[.bool s12,.slice A12 n12 c12])) (some 9) (.pointer (some ⟨aD,0,none⟩))) v:=by
   intro s11 A11 n11 c11 s12 A12 n12 c12 aD v aA aK aQ aO aT
   subst hF ha0 hL0
   simp only [PT] at bG ⊢
   have hHeld:=aH.out _ aA.out
   refine ryy [12] ?_
   refine .cons rfl (fun K hK=>?_) .nil
   go_simp
   go_at_call 118
   refine (padd_any ((ax - px)*(bx - px)) ((ay - py)*(by' - py)) s11 s12 A11 A12 n11 c11 n12 c12 v aK.out aQ.out (Nat.le_trans (plim aK.out (nk_lim HM.out.1.1)) (by decide)) (Nat.le_trans (plim aQ.out (nk_lim HM.out.1.2)) (by decide)) (nk_lim HM.out.1.1) (nk_lim HM.out.1.2)).mono ?_
   rw [bF.out.1,bF.out.2]
   rintro e v29 ⟨s14,A14,n14,c14,rfl,hr14,hb⟩
   have bQ:=hJ hb
   have iZ:=hJ hr14
   clear hb hr14
   go_wp2_with fail
   have eT:=hJ (bt aA.out bQ.out)
   have jA:=hJ (PIo.new aK.out bQ.out)
   have jB:=hJ (PIo.new aQ.out bQ.out)
   have jC:=hJ (BX.new aO.out bQ.out)
   clear hHeld
   refine hK.out _ _ (aH.out _ eT.out) (fun hHeld=>?_)
   clear hK K
   refine tq 13 ?_
   refine tq 14 ?_
   refine tq 15 ?_
   try simp only [PT]
   exact wpAnyH_cast (by kernel_rfl) (bG s11 A11 n11 c11 s12 A12 n12 c12 s14 A14 n14 c14 aD v29 eT jA jB iZ jC aT)
  have eU:∀ (s11:Bool) (A11:Option Addr) (n11:Nat) (c11:Nat) (s12:Bool) (A12:Option Addr) (n12:Nat) (c12:Nat) (v:World),Hid (Below v4.heap.size v4 v)→Hid (PI v s11 A11 n11 c11 ((ax - px)*(bx - px)))→Hid (PI v s12 A12 n12 c12 ((ay - py)*(by' - py)))→F 7 (Array.setIfInBounds (Array.setIfInBounds L0 5 true) 11 true) (Act.put (Act.put a0 (some 25) (.agg #[.bool s11,.slice A11 n11 c11])) (some 31) (.agg #[.bool s12,.slice A12 n12 c12])) v:=by
   intro s11 A11 n11 c11 s12 A12 n12 c12 v aA aK aQ
   subst hF ha0 hL0
   simp only [PT] at eR bP ⊢
   have hHeld:=aH.out _ aA.out
   refine ryy [12,16] ?_
   refine .cons rfl (fun K hK=>?_) ?_
   go_simp
   go_at_call 118
   refine (padd_any ((ax - px)*(bx - px)) ((ay - py)*(by' - py)) s11 s12 A11 A12 n11 c11 n12 c12 v aK.out aQ.out (Nat.le_trans (plim aK.out (nk_lim HM.out.1.1)) (by decide)) (Nat.le_trans (plim aQ.out (nk_lim HM.out.1.2)) (by decide)) (nk_lim HM.out.1.1) (nk_lim HM.out.1.2)).mono ?_
   rw [bF.out.1,bF.out.2]
   rintro e v30 ⟨s14,A14,n14,c14,rfl,hr14,hb⟩
   have cR:=hJ hb
   have jD:=hJ hr14
   clear hb hr14
   go_wp2_with fail
   have eV:=hJ (bt aA.out cR.out)
   have jE:=hJ (PIo.new aK.out cR.out)
   have jF:=hJ (PIo.new aQ.out cR.out)
   clear hHeld
   refine hK.out _ _ (aH.out _ eV.out) (fun hHeld=>?_)
   clear hK K
   refine tq 13 ?_
   refine tq 14 ?_
   refine tq 15 ?_
   try simp only [PT]
   exact wpAnyH_cast (by kernel_rfl) (eR s11 A11 n11 c11 s12 A12 n12 c12 s14 A14 n14 c14 v30 eV jE jF jD)
   refine .cons rfl (fun K hK=>?_) .nil
   go_simp
   have bR:=hJ ((Below.refl v.heap.size v).alloc (Nat.le_refl _) (.cells #[.bool false,.slice none 0 0] 25))
   have cS:=hJ (BX.lit v 25 #[.bool false,.slice none 0 0])
   obtain ⟨v31,hV⟩:=nmz (World.alloc v (.cells #[.bool false,.slice none 0 0] 25))
   obtain ⟨aD,hg⟩:=nmz (v.heap.size)
   rw [hV] at bR cS ⊢
   rw [hg] at cS ⊢
   have jG:=hJ (show v4.heap.size≤aD by rw [←hg]; exact aA.out.size)
   clear hV hg
   have eW:=hJ (bt aA.out bR.out)
   have jH:=hJ (PIo.new aK.out bR.out)
   have jI:=hJ (PIo.new aQ.out bR.out)
   clear hHeld
   refine hK.out _ _ (aH.out _ eW.out) (fun hHeld=>?_)
   clear hK K
   try simp only [PT]
   exact wpAnyH_cast (by kernel_rfl) (bP s11 A11 n11 c11 s12 A12 n12 c12 aD v31 eW jH jI cS jG)
  have bS:∀ (s11:Bool) (A11:Option Addr) (n11:Nat) (c11:Nat) (aD:Nat) (v:World),Hid (Below v4.heap.size v4 v)→Hid (PI v s11 A11 n11 c11 ((ax - px)*(bx - px)))→Hid (BX 25 v aD #[.bool false,.slice none 0 0])→Hid (v4.heap.size≤aD)→F 7 (Array.setIfInBounds (Array.setIfInBounds L0 5 true) 16 true) (Act.put (Act.put a0 (some 25) (.agg #[.bool s11,.slice A11 n11 c11])) (some 9) (.pointer (some ⟨aD,0,none⟩))) v:=by
   intro s11 A11 n11 c11 aD v aA aK aO aT
   subst hF ha0 hL0
   simp only [PT] at bP ⊢
   have hHeld:=aH.out _ aA.out
   refine ryy [11] ?_
   refine .cons rfl (fun K hK=>?_) .nil
   go_simp
   go_at_call 41
   refine (from_any ((ay - py)*(by' - py)) v (i6_wf (nk_i6 HM.out.1.2 (by decide)))).mono ?_
   rintro e v32 ⟨s12,A12,n12,c12,rfl,hr12,hb⟩
   have cT:=hJ hb
   have jJ:=hJ hr12
   clear hb hr12
   go_wp2_with fail
   have eX:=hJ (bt aA.out cT.out)
   have jK:=hJ (PIo.new aK.out cT.out)
   have jL:=hJ (BX.new aO.out cT.out)
   clear hHeld
   refine hK.out _ _ (aH.out _ eX.out) (fun hHeld=>?_)
   clear hK K
   try simp only [PT]
   exact wpAnyH_cast (by kernel_rfl) (bP s11 A11 n11 c11 s12 A12 n12 c12 aD v32 eX jK jJ jL aT)
  have eY:∀ (s11:Bool) (A11:Option Addr) (n11:Nat) (c11:Nat) (v:World),Hid (Below v4.heap.size v4 v)→Hid (PI v s11 A11 n11 c11 ((ax - px)*(bx - px)))→F 8 (Array.setIfInBounds L0 5 true) (Act.put a0 (some 25) (.agg #[.bool s11,.slice A11 n11 c11])) v:=by
   intro s11 A11 n11 c11 v aA aK
   subst hF ha0 hL0
   simp only [PT] at eU bS ⊢
   have hHeld:=aH.out _ aA.out
   refine ryy [11,16] ?_
   refine .cons rfl (fun K hK=>?_) ?_
   go_simp
   go_at_call 41
   refine (from_any ((ay - py)*(by' - py)) v (i6_wf (nk_i6 HM.out.1.2 (by decide)))).mono ?_
   rintro e v33 ⟨s12,A12,n12,c12,rfl,hr12,hb⟩
   have eZ:=hJ hb
   have jM:=hJ hr12
   clear hb hr12
   go_wp2_with fail
   have fA:=hJ (bt aA.out eZ.out)
   have jN:=hJ (PIo.new aK.out eZ.out)
   clear hHeld
   refine hK.out _ _ (aH.out _ fA.out) (fun hHeld=>?_)
   clear hK K
   try simp only [PT]
   exact wpAnyH_cast (by kernel_rfl) (eU s11 A11 n11 c11 s12 A12 n12 c12 v33 fA jN jM)
   refine .cons rfl (fun K hK=>?_) .nil
   go_simp
   have cU:=hJ ((Below.refl v.heap.size v).alloc (Nat.le_refl _) (.cells #[.bool false,.slice none 0 0] 25))
   have cV:=hJ (BX.lit v 25 #[.bool false,.slice none 0 0])
   obtain ⟨v34,hV⟩:=nmz (World.alloc v (.cells #[.bool false,.slice none 0 0] 25))
   obtain ⟨aD,hg⟩:=nmz (v.heap.size)
   rw [hV] at cU cV ⊢
   rw [hg] at cV ⊢
   have jO:=hJ (show v4.heap.size≤aD by rw [←hg]; exact aA.out.size)
   clear hV hg
   have fB:=hJ (bt aA.out cU.out)
   have jP:=hJ (PIo.new aK.out cU.out)
   clear hHeld
   refine hK.out _ _ (aH.out _ fB.out) (fun hHeld=>?_)
   clear hK K
   try simp only [PT]
   exact wpAnyH_cast (by kernel_rfl) (bS s11 A11 n11 c11 aD v34 fB jP cV jO)
  have fC:∀ (aD:Nat) (v:World),Hid (Below v4.heap.size v4 v)→Hid (BX 25 v aD #[.bool false,.slice none 0 0])→Hid (v4.heap.size≤aD)→F 8 (Array.setIfInBounds L0 16 true) (Act.put a0 (some 9) (.pointer (some ⟨aD,0,none⟩))) v:=by
   intro aD v aA aO aT
   subst hF ha0 hL0
   simp only [PT] at bS ⊢
   have hHeld:=aH.out _ aA.out
   refine ryy [5] ?_
   refine .cons rfl (fun K hK=>?_) .nil
   go_simp
   go_at_call 41
   refine (from_any ((ax - px)*(bx - px)) v (i6_wf (nk_i6 HM.out.1.1 (by decide)))).mono ?_
   rintro e v35 ⟨s11,A11,n11,c11,rfl,hr11,hb⟩
   have fD:=hJ hb
   have jQ:=hJ hr11
   clear hb hr11
   go_wp2_with fail
   have fE:=hJ (bt aA.out fD.out)
   have jR:=hJ (BX.new aO.out fD.out)
   clear hHeld
   refine hK.out _ _ (aH.out _ fE.out) (fun hHeld=>?_)
   clear hK K
   try simp only [PT]
   exact wpAnyH_cast (by kernel_rfl) (bS s11 A11 n11 c11 aD v35 fE jQ jR aT)
  subst hF ha0 hL0
  simp only [PT] at eY fC
  refine ryy [5,16] ?_
  refine .cons rfl (fun K hK=>?_) ?_
  go_simp
  go_at_call 41
  refine (from_any ((ax - px)*(bx - px)) v7 (i6_wf (nk_i6 HM.out.1.1 (by decide)))).mono ?_
  rintro e v36 ⟨s11,A11,n11,c11,rfl,hr11,hb⟩
  have jS:=hJ hb
  have jT:=hJ hr11
  clear hb hr11
  go_wp2_with fail
  have fF:=hJ (bt cD.out jS.out)
  clear hHeld
  refine hK.out _ _ (aH.out _ fF.out) (fun hHeld=>?_)
  clear hK K
  try simp only [PT]
  exact wpAnyH_cast (by kernel_rfl) (eY s11 A11 n11 c11 v36 fF jT)
  refine .cons rfl (fun K hK=>?_) .nil
  go_simp
  have fG:=hJ ((Below.refl v7.heap.size v7).alloc (Nat.le_refl _) (.cells #[.bool false,.slice none 0 0] 25))
  have cW:=hJ (BX.lit v7 25 #[.bool false,.slice none 0 0])
  obtain ⟨v37,hV⟩:=nmz (World.alloc v7 (.cells #[.bool false,.slice none 0 0] 25))
  obtain ⟨aD,hg⟩:=nmz (v7.heap.size)
  rw [hV] at fG cW ⊢
  rw [hg] at cW ⊢
  have jU:=hJ (show v4.heap.size≤aD by rw [←hg]; exact cD.out.size)
  clear hV hg
  have fH:=hJ (bt cD.out fG.out)
  clear hHeld
  refine hK.out _ _ (aH.out _ fH.out) (fun hHeld=>?_)
  clear hK K
  try simp only [PT]
  exact wpAnyH_cast (by kernel_rfl) (fC aD v37 fH cW jU)
 have bT:∀ (aB:Nat) (v:World),Hid (Below x1.heap.size x1 v)→Hid (BX 87 v aB #[.int .i64 0,.int .i64 0])→Hid (x1.heap.size≤aB)→F 3 (Array.setIfInBounds (Array.setIfInBounds (Array.setIfInBounds L0 2 true) 5 true) 6 true) (Act.put (Act.put (Act.put a0 (some 15) (.agg #[.int .i64 (ax - px),.int .i64 (ay - py)])) (some 18) (.agg #[.int .i64 (bx - px),.int .i64 (by' - py)])) (some 7) (.pointer (some ⟨aB,0,none⟩))) v:=by
  intro aB v aA aG aM
  subst hF ha0 hL0
  simp only [PT] at aW ⊢
  have hHeld:=aF.out _ aA.out
  refine ryy [7] ?_
  refine .cons rfl (fun K hK=>?_) .nil
  go_simp
  have cX:=hJ ((Below.refl v.heap.size v).alloc (Nat.le_refl _) (.cells #[.int .i64 0,.int .i64 0] 87))
  have cY:=hJ (BX.lit v 87 #[.int .i64 0,.int .i64 0])
  obtain ⟨v38,hV⟩:=nmz (World.alloc v (.cells #[.int .i64 0,.int .i64 0] 87))
  obtain ⟨aC,hg⟩:=nmz (v.heap.size)
  rw [hV] at cX cY ⊢
  rw [hg] at cY ⊢
  have jV:=hJ (show x1.heap.size≤aC by rw [←hg]; exact aA.out.size)
  have jW:=hJ (show aB≠aC by have:=aG.out.lt; rw [hg] at this; omega)
  clear hV hg
  have fI:=hJ (bt aA.out cX.out)
  have jX:=hJ (BX.new aG.out cX.out)
  clear hHeld
  refine hK.out _ _ (aF.out _ fI.out) (fun hHeld=>?_)
  clear hK K
  try simp only [PT]
  exact wpAnyH_cast (by kernel_rfl) (aW aB aC v38 fI jX aM cY jV (hJ jW.out))
 have bU:∀ (aC:Nat) (v:World),Hid (Below x1.heap.size x1 v)→Hid (BX 87 v aC #[.int .i64 0,.int .i64 0])→Hid (x1.heap.size≤aC)→F 3 (Array.setIfInBounds (Array.setIfInBounds (Array.setIfInBounds L0 2 true) 5 true) 7 true) (Act.put (Act.put (Act.put a0 (some 15) (.agg #[.int .i64 (ax - px),.int .i64 (ay - py)])) (some 18) (.agg #[.int .i64 (bx - px),.int .i64 (by' - py)])) (some 8) (.pointer (some ⟨aC,0,none⟩))) v:=by
  intro aC v aA aJ aN
  subst hF ha0 hL0
  simp only [PT] at aW ⊢
  have hHeld:=aF.out _ aA.out
  refine ryy [6] ?_
  refine .cons rfl (fun K hK=>?_) .nil
  go_simp
  have cZ:=hJ ((Below.refl v.heap.size v).alloc (Nat.le_refl _) (.cells #[.int .i64 0,.int .i64 0] 87))
  have dA:=hJ (BX.lit v 87 #[.int .i64 0,.int .i64 0])
  obtain ⟨v39,hV⟩:=nmz (World.alloc v (.cells #[.int .i64 0,.int .i64 0] 87))
  obtain ⟨aB,hg⟩:=nmz (v.heap.size)
  rw [hV] at cZ dA ⊢
  rw [hg] at dA ⊢
  have jY:=hJ (show x1.heap.size≤aB by rw [←hg]; exact aA.out.size)
  have jZ:=hJ (show aC≠aB by have:=aJ.out.lt; rw [hg] at this; omega)
  clear hV hg
  have fJ:=hJ (bt aA.out cZ.out)
  have kA:=hJ (BX.new aJ.out cZ.out)
  clear hHeld
  refine hK.out _ _ (aF.out _ fJ.out) (fun hHeld=>?_)
  clear hK K
  try simp only [PT]
  exact wpAnyH_cast (by kernel_rfl) (aW aB aC v39 fJ dA jY kA aN (hJ jZ.out.symm))
 have aZ:∀ (aB:Nat) (aC:Nat) (v:World),Hid (Below x1.heap.size x1 v)→Hid (BX 87 v aB #[.int .i64 0,.int .i64 0])→Hid (x1.heap.size≤aB)→Hid (BX 87 v aC #[.int .i64 0,.int .i64 0])→Hid (x1.heap.size≤aC)→Hid (aB≠aC)→F 3 (Array.setIfInBounds (Array.setIfInBounds (Array.setIfInBounds L0 2 true) 6 true) 7 true) (Act.put (Act.put (Act.put a0 (some 15) (.agg #[.int .i64 (ax - px),.int .i64 (ay - py)])) (some 7) (.pointer (some ⟨aB,0,none⟩))) (some 8) (.pointer (some ⟨aC,0,none⟩))) v:=by
  intro aB aC v aA aG aM aJ aN aX
  subst hF ha0 hL0
  simp only [PT] at aW ⊢
  have hHeld:=aF.out _ aA.out
  refine ryy [5] ?_
  refine .cons rfl (fun K hK=>?_) .nil
  go_simp
  go_at_call 162
  refine (away_any px py bx by' v (nk_i HD.out.2.1) (nk_i HD.out.2.2)).mono ?_
  rintro e v40 ⟨rfl,hb⟩
  have dB:=hJ hb
  clear hb
  go_wp2_with fail
  have fK:=hJ (bt aA.out dB.out)
  have kB:=hJ (BX.new aG.out dB.out)
  have kC:=hJ (BX.new aJ.out dB.out)
  clear hHeld
  refine hK.out _ _ (aF.out _ fK.out) (fun hHeld=>?_)
  clear hK K
  try simp only [PT]
  exact wpAnyH_cast (by kernel_rfl) (aW aB aC v40 fK kB aM kC aN (hJ aX.out))
 have fL:∀ (v:World),Hid (Below x1.heap.size x1 v)→F 4 (Array.setIfInBounds (Array.setIfInBounds L0 2 true) 5 true) (Act.put (Act.put a0 (some 15) (.agg #[.int .i64 (ax - px),.int .i64 (ay - py)])) (some 18) (.agg #[.int .i64 (bx - px),.int .i64 (by' - py)])) v:=by
  intro  v aA
  subst hF ha0 hL0
  simp only [PT] at bT bU ⊢
  have hHeld:=aF.out _ aA.out
  refine ryy [6,7] ?_
  refine .cons rfl (fun K hK=>?_) ?_
  go_simp
  have fM:=hJ ((Below.refl v.heap.size v).alloc (Nat.le_refl _) (.cells #[.int .i64 0,.int .i64 0] 87))
  have dD:=hJ (BX.lit v 87 #[.int .i64 0,.int .i64 0])
  obtain ⟨v41,hV⟩:=nmz (World.alloc v (.cells #[.int .i64 0,.int .i64 0] 87))
  obtain ⟨aB,hg⟩:=nmz (v.heap.size)
  rw [hV] at fM dD ⊢
  rw [hg] at dD ⊢
  have kD:=hJ (show x1.heap.size≤aB by rw [←hg]; exact aA.out.size)
  clear hV hg
  have fN:=hJ (bt aA.out fM.out)
  clear hHeld
  refine hK.out _ _ (aF.out _ fN.out) (fun hHeld=>?_)
  clear hK K
  try simp only [PT]
  exact wpAnyH_cast (by kernel_rfl) (bT aB v41 fN dD kD)
  refine .cons rfl (fun K hK=>?_) .nil
  go_simp
  have fO:=hJ ((Below.refl v.heap.size v).alloc (Nat.le_refl _) (.cells #[.int .i64 0,.int .i64 0] 87))
  have dE:=hJ (BX.lit v 87 #[.int .i64 0,.int .i64 0])
  obtain ⟨v42,hV⟩:=nmz (World.alloc v (.cells #[.int .i64 0,.int .i64 0] 87))
  obtain ⟨aC,hg⟩:=nmz (v.heap.size)
  rw [hV] at fO dE ⊢
  rw [hg] at dE ⊢
  have kE:=hJ (show x1.heap.size≤aC by rw [←hg]; exact aA.out.size)
  clear hV hg
  have fP:=hJ (bt aA.out fO.out)
  clear hHeld
  refine hK.out _ _ (aF.out _ fP.out) (fun hHeld=>?_)
  clear hK K
  try simp only [PT]
  exact wpAnyH_cast (by kernel_rfl) (bU aC v42 fP dE kE)
 have bV:∀ (aB:Nat) (v:World),Hid (Below x1.heap.size x1 v)→Hid (BX 87 v aB #[.int .i64 0,.int .i64 0])→Hid (x1.heap.size≤aB)→F 4 (Array.setIfInBounds (Array.setIfInBounds L0 2 true) 6 true) (Act.put (Act.put a0 (some 15) (.agg #[.int .i64 (ax - px),.int .i64 (ay - py)])) (some 7) (.pointer (some ⟨aB,0,none⟩))) v:=by
  intro aB v aA aG aM
  subst hF ha0 hL0
  simp only [PT] at bT aZ ⊢
  have hHeld:=aF.out _ aA.out
  refine ryy [5,7] ?_
  refine .cons rfl (fun K hK=>?_) ?_
  go_simp
  go_at_call 162
  refine (away_any px py bx by' v (nk_i HD.out.2.1) (nk_i HD.out.2.2)).mono ?_
  rintro e v43 ⟨rfl,hb⟩
  have fQ:=hJ hb
  clear hb
  go_wp2_with fail
  have fR:=hJ (bt aA.out fQ.out)
  have kF:=hJ (BX.new aG.out fQ.out)
  clear hHeld
  refine hK.out _ _ (aF.out _ fR.out) (fun hHeld=>?_)
  clear hK K
  try simp only [PT]
  exact wpAnyH_cast (by kernel_rfl) (bT aB v43 fR kF aM)
  refine .cons rfl (fun K hK=>?_) .nil
  go_simp
  have dF:=hJ ((Below.refl v.heap.size v).alloc (Nat.le_refl _) (.cells #[.int .i64 0,.int .i64 0] 87))
  have dG:=hJ (BX.lit v 87 #[.int .i64 0,.int .i64 0])
  obtain ⟨v44,hV⟩:=nmz (World.alloc v (.cells #[.int .i64 0,.int .i64 0] 87))
  obtain ⟨aC,hg⟩:=nmz (v.heap.size)
  rw [hV] at dF dG ⊢
  rw [hg] at dG ⊢
  have kG:=hJ (show x1.heap.size≤aC by rw [←hg]; exact aA.out.size)
  have kH:=hJ (show aB≠aC by have:=aG.out.lt; rw [hg] at this; omega)
  clear hV hg
  have fS:=hJ (bt aA.out dF.out)
  have kI:=hJ (BX.new aG.out dF.out)
  clear hHeld
  refine hK.out _ _ (aF.out _ fS.out) (fun hHeld=>?_)
  clear hK K
  try simp only [PT]
  exact wpAnyH_cast (by kernel_rfl) (aZ aB aC v44 fS kI aM dG kG (hJ kH.out))
 have bW:∀ (aC:Nat) (v:World),Hid (Below x1.heap.size x1 v)→Hid (BX 87 v aC #[.int .i64 0,.int .i64 0])→Hid (x1.heap.size≤aC)→F 4 (Array.setIfInBounds (Array.setIfInBounds L0 2 true) 7 true) (Act.put (Act.put a0 (some 15) (.agg #[.int .i64 (ax - px),.int .i64 (ay - py)])) (some 8) (.pointer (some ⟨aC,0,none⟩))) v:=by
  intro aC v aA aJ aN
  subst hF ha0 hL0
  simp only [PT] at bU aZ ⊢
  have hHeld:=aF.out _ aA.out
  refine ryy [5,6] ?_
  refine .cons rfl (fun K hK=>?_) ?_
  go_simp
  go_at_call 162
  refine (away_any px py bx by' v (nk_i HD.out.2.1) (nk_i HD.out.2.2)).mono ?_
  rintro e v45 ⟨rfl,hb⟩
  have fT:=hJ hb
  clear hb
  go_wp2_with fail
  have fU:=hJ (bt aA.out fT.out)
  have kJ:=hJ (BX.new aJ.out fT.out)
  clear hHeld
  refine hK.out _ _ (aF.out _ fU.out) (fun hHeld=>?_)
  clear hK K
  try simp only [PT]
  exact wpAnyH_cast (by kernel_rfl) (bU aC v45 fU kJ aN)
  refine .cons rfl (fun K hK=>?_) .nil
  go_simp
  have dH:=hJ ((Below.refl v.heap.size v).alloc (Nat.le_refl _) (.cells #[.int .i64 0,.int .i64 0] 87))
  have dI:=hJ (BX.lit v 87 #[.int .i64 0,.int .i64 0])
  obtain ⟨v46,hV⟩:=nmz (World.alloc v (.cells #[.int .i64 0,.int .i64 0] 87))
  obtain ⟨aB,hg⟩:=nmz (v.heap.size)
  rw [hV] at dH dI ⊢
  rw [hg] at dI ⊢
  have kK:=hJ (show x1.heap.size≤aB by rw [←hg]; exact aA.out.size)
  have kL:=hJ (show aC≠aB by have:=aJ.out.lt; rw [hg] at this; omega)
  clear hV hg
  have fV:=hJ (bt aA.out dH.out)
  have kM:=hJ (BX.new aJ.out dH.out)
  clear hHeld
  refine hK.out _ _ (aF.out _ fV.out) (fun hHeld=>?_)
  clear hK K
  try simp only [PT]
  exact wpAnyH_cast (by kernel_rfl) (aZ aB aC v46 fV dI kK kM aN (hJ kL.out.symm))
 have bX:∀ (aB:Nat) (aC:Nat) (v:World),Hid (Below x1.heap.size x1 v)→Hid (BX 87 v aB #[.int .i64 0,.int .i64 0])→Hid (x1.heap.size≤aB)→Hid (BX 87 v aC #[.int .i64 0,.int .i64 0])→Hid (x1.heap.size≤aC)→Hid (aB≠aC)→F 4 (Array.setIfInBounds (Array.setIfInBounds L0 6 true) 7 true) (Act.put (Act.put a0 (some 7) (.pointer (some ⟨aB,0,none⟩))) (some 8) (.pointer (some ⟨aC,0,none⟩))) v:=by
  intro aB aC v aA aG aM aJ aN aX
  subst hF ha0 hL0
  simp only [PT] at aZ ⊢
  have hHeld:=aF.out _ aA.out
  refine ryy [2] ?_
  refine .cons rfl (fun K hK=>?_) .nil
  go_simp
  go_at_call 162
  refine (away_any px py ax ay v (nk_i HD.out.1.1) (nk_i HD.out.1.2)).mono ?_
  rintro e v47 ⟨rfl,hb⟩
  have dJ:=hJ hb
  clear hb
  go_wp2_with fail
  have fW:=hJ (bt aA.out dJ.out)
  have kN:=hJ (BX.new aG.out dJ.out)
  have kO:=hJ (BX.new aJ.out dJ.out)
  clear hHeld
  refine hK.out _ _ (aF.out _ fW.out) (fun hHeld=>?_)
  clear hK K
  try simp only [PT]
  exact wpAnyH_cast (by kernel_rfl) (aZ aB aC v47 fW kN aM kO aN (hJ aX.out))
 have fX:∀ (v:World),Hid (Below x1.heap.size x1 v)→F 5 (Array.setIfInBounds L0 2 true) (Act.put a0 (some 15) (.agg #[.int .i64 (ax - px),.int .i64 (ay - py)])) v:=by
  intro  v aA
  subst hF ha0 hL0
  simp only [PT] at fL bV bW ⊢
  have hHeld:=aF.out _ aA.out
  refine ryy [5,6,7] ?_
  refine .cons rfl (fun K hK=>?_) ?_
  go_simp
  go_at_call 162
  refine (away_any px py bx by' v (nk_i HD.out.2.1) (nk_i HD.out.2.2)).mono ?_
  rintro e v48 ⟨rfl,hb⟩
  have kP:=hJ hb
  clear hb
  go_wp2_with fail
  have fY:=hJ (bt aA.out kP.out)
  clear hHeld
  refine hK.out _ _ (aF.out _ fY.out) (fun hHeld=>?_)
  clear hK K
  try simp only [PT]
  exact wpAnyH_cast (by kernel_rfl) (fL  v48 fY)
  refine .cons rfl (fun K hK=>?_) ?_
  go_simp
  have fZ:=hJ ((Below.refl v.heap.size v).alloc (Nat.le_refl _) (.cells #[.int .i64 0,.int .i64 0] 87))
  have dK:=hJ (BX.lit v 87 #[.int .i64 0,.int .i64 0])
  obtain ⟨v49,hV⟩:=nmz (World.alloc v (.cells #[.int .i64 0,.int .i64 0] 87))
  obtain ⟨aB,hg⟩:=nmz (v.heap.size)
  rw [hV] at fZ dK ⊢
  rw [hg] at dK ⊢
  have kQ:=hJ (show x1.heap.size≤aB by rw [←hg]; exact aA.out.size)
  clear hV hg
  have gA:=hJ (bt aA.out fZ.out)
  clear hHeld
  refine hK.out _ _ (aF.out _ gA.out) (fun hHeld=>?_)
  clear hK K
  try simp only [PT]
  exact wpAnyH_cast (by kernel_rfl) (bV aB v49 gA dK kQ)
  refine .cons rfl (fun K hK=>?_) .nil
  go_simp
  have gB:=hJ ((Below.refl v.heap.size v).alloc (Nat.le_refl _) (.cells #[.int .i64 0,.int .i64 0] 87))
  have dL:=hJ (BX.lit v 87 #[.int .i64 0,.int .i64 0])
  obtain ⟨v50,hV⟩:=nmz (World.alloc v (.cells #[.int .i64 0,.int .i64 0] 87))
  obtain ⟨aC,hg⟩:=nmz (v.heap.size)
  rw [hV] at gB dL ⊢
  rw [hg] at dL ⊢
  have kR:=hJ (show x1.heap.size≤aC by rw [←hg]; exact aA.out.size)
  clear hV hg
  have gC:=hJ (bt aA.out gB.out)
  clear hHeld
  refine hK.out _ _ (aF.out _ gC.out) (fun hHeld=>?_)
  clear hK K
  try simp only [PT]
  exact wpAnyH_cast (by kernel_rfl) (bW aC v50 gC dL kR)
 have gD:∀ (aB:Nat) (v:World),Hid (Below x1.heap.size x1 v)→Hid (BX 87 v aB #[.int .i64 0,.int .i64 0])→Hid (x1.heap.size≤aB)→F 5 (Array.setIfInBounds L0 6 true) (Act.put a0 (some 7) (.pointer (some ⟨aB,0,none⟩))) v:=by
  intro aB v aA aG aM
  subst hF ha0 hL0
  simp only [PT] at bV bX ⊢
  have hHeld:=aF.out _ aA.out
  refine ryy [2,7] ?_
  refine .cons rfl (fun K hK=>?_) ?_
  go_simp
  go_at_call 162
  refine (away_any px py ax ay v (nk_i HD.out.1.1) (nk_i HD.out.1.2)).mono ?_
  rintro e v51 ⟨rfl,hb⟩
  have gE:=hJ hb
  clear hb
  go_wp2_with fail
  have gF:=hJ (bt aA.out gE.out)
  have kS:=hJ (BX.new aG.out gE.out)
  clear hHeld
  refine hK.out _ _ (aF.out _ gF.out) (fun hHeld=>?_)
  clear hK K
  try simp only [PT]
  exact wpAnyH_cast (by kernel_rfl) (bV aB v51 gF kS aM)
  refine .cons rfl (fun K hK=>?_) .nil
  go_simp
  have dM:=hJ ((Below.refl v.heap.size v).alloc (Nat.le_refl _) (.cells #[.int .i64 0,.int .i64 0] 87))
  have dN:=hJ (BX.lit v 87 #[.int .i64 0,.int .i64 0])
  obtain ⟨v52,hV⟩:=nmz (World.alloc v (.cells #[.int .i64 0,.int .i64 0] 87))
  obtain ⟨aC,hg⟩:=nmz (v.heap.size)
  rw [hV] at dM dN ⊢
  rw [hg] at dN ⊢
  have kT:=hJ (show x1.heap.size≤aC by rw [←hg]; exact aA.out.size)
  have kU:=hJ (show aB≠aC by have:=aG.out.lt; rw [hg] at this; omega)
  clear hV hg
  have gG:=hJ (bt aA.out dM.out)
  have kV:=hJ (BX.new aG.out dM.out)
  clear hHeld
  refine hK.out _ _ (aF.out _ gG.out) (fun hHeld=>?_)
  clear hK K
  try simp only [PT]
  exact wpAnyH_cast (by kernel_rfl) (bX aB aC v52 gG kV aM dN kT (hJ kU.out))
 have gH:∀ (aC:Nat) (v:World),Hid (Below x1.heap.size x1 v)→Hid (BX 87 v aC #[.int .i64 0,.int .i64 0])→Hid (x1.heap.size≤aC)→F 5 (Array.setIfInBounds L0 7 true) (Act.put a0 (some 8) (.pointer (some ⟨aC,0,none⟩))) v:=by
  intro aC v aA aJ aN
  subst hF ha0 hL0
  simp only [PT] at bW bX ⊢
  have hHeld:=aF.out _ aA.out
  refine ryy [2,6] ?_
  refine .cons rfl (fun K hK=>?_) ?_
  go_simp
  go_at_call 162
  refine (away_any px py ax ay v (nk_i HD.out.1.1) (nk_i HD.out.1.2)).mono ?_
  rintro e v53 ⟨rfl,hb⟩
  have gI:=hJ hb
  clear hb
  go_wp2_with fail
  have gJ:=hJ (bt aA.out gI.out)
  have kW:=hJ (BX.new aJ.out gI.out)
  clear hHeld
  refine hK.out _ _ (aF.out _ gJ.out) (fun hHeld=>?_)
  clear hK K
  try simp only [PT]
  exact wpAnyH_cast (by kernel_rfl) (bW aC v53 gJ kW aN)
  refine .cons rfl (fun K hK=>?_) .nil
  go_simp
  have dO:=hJ ((Below.refl v.heap.size v).alloc (Nat.le_refl _) (.cells #[.int .i64 0,.int .i64 0] 87))
  have dP:=hJ (BX.lit v 87 #[.int .i64 0,.int .i64 0])
  obtain ⟨v54,hV⟩:=nmz (World.alloc v (.cells #[.int .i64 0,.int .i64 0] 87))
  obtain ⟨aB,hg⟩:=nmz (v.heap.size)
  rw [hV] at dO dP ⊢
  rw [hg] at dP ⊢
  have kX:=hJ (show x1.heap.size≤aB by rw [←hg]; exact aA.out.size)
  have kY:=hJ (show aC≠aB by have:=aJ.out.lt; rw [hg] at this; omega)
  clear hV hg
  have gK:=hJ (bt aA.out dO.out)
  have kZ:=hJ (BX.new aJ.out dO.out)
  clear hHeld
  refine hK.out _ _ (aF.out _ gK.out) (fun hHeld=>?_)
  clear hK K
  try simp only [PT]
  exact wpAnyH_cast (by kernel_rfl) (bX aB aC v54 gK dP kX kZ aN (hJ kY.out.symm))
 subst hF ha0 hL0
 simp only [PT] at fX gD gH
 refine ryy [2,6,7] ?_
 refine .cons rfl (fun K hK=>?_) ?_
 go_simp
 go_at_call 162
 refine (away_any px py ax ay v2 (nk_i HD.out.1.1) (nk_i HD.out.1.2)).mono ?_
 rintro e v55 ⟨rfl,hb⟩
 have lA:=hJ hb
 clear hb
 go_wp2_with fail
 have gL:=hJ (bt bA.out lA.out)
 clear hHeld
 refine hK.out _ _ (aF.out _ gL.out) (fun hHeld=>?_)
 clear hK K
 try simp only [PT]
 exact wpAnyH_cast (by kernel_rfl) (fX  v55 gL)
 refine .cons rfl (fun K hK=>?_) ?_
 go_simp
 have gM:=hJ ((Below.refl v2.heap.size v2).alloc (Nat.le_refl _) (.cells #[.int .i64 0,.int .i64 0] 87))
 have dQ:=hJ (BX.lit v2 87 #[.int .i64 0,.int .i64 0])
 obtain ⟨v56,hV⟩:=nmz (World.alloc v2 (.cells #[.int .i64 0,.int .i64 0] 87))
 obtain ⟨aB,hg⟩:=nmz (v2.heap.size)
 rw [hV] at gM dQ ⊢
 rw [hg] at dQ ⊢
 have lB:=hJ (show x1.heap.size≤aB by rw [←hg]; exact bA.out.size)
 clear hV hg
 have gN:=hJ (bt bA.out gM.out)
 clear hHeld
 refine hK.out _ _ (aF.out _ gN.out) (fun hHeld=>?_)
 clear hK K
 try simp only [PT]
 exact wpAnyH_cast (by kernel_rfl) (gD aB v56 gN dQ lB)
 refine .cons rfl (fun K hK=>?_) .nil
 go_simp
 have gO:=hJ ((Below.refl v2.heap.size v2).alloc (Nat.le_refl _) (.cells #[.int .i64 0,.int .i64 0] 87))
 have dR:=hJ (BX.lit v2 87 #[.int .i64 0,.int .i64 0])
 obtain ⟨v57,hV⟩:=nmz (World.alloc v2 (.cells #[.int .i64 0,.int .i64 0] 87))
 obtain ⟨aC,hg⟩:=nmz (v2.heap.size)
 rw [hV] at gO dR ⊢
 rw [hg] at dR ⊢
 have lC:=hJ (show x1.heap.size≤aC by rw [←hg]; exact bA.out.size)
 clear hV hg
 have gP:=hJ (bt bA.out gO.out)
 clear hHeld
 refine hK.out _ _ (aF.out _ gP.out) (fun hHeld=>?_)
 clear hK K
 try simp only [PT]
 exact wpAnyH_cast (by kernel_rfl) (gH aC v57 gP dR lC)
end Go.Proofs.YteggneaefggbmaaGreat
