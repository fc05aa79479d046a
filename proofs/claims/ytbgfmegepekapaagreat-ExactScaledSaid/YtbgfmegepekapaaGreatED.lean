/- Contracts: Turn, Sector, SideOf. Conditions: as each statement has them. -/
import Derived.Test.YtbgfmegepekapaaGreatEA
namespace Go.Proofs.YtbgfmegepekapaaGreat
set_option maxRecDepth 100000
set_option maxHeartbeats 12800000
open Go.RowKit
attribute [local go_sem ↓] Go.wp_at_zero Go.wp_at_succ
set_option linter.unusedVariables false
set_option linter.unusedSimpArgs false
theorem turn_any (a b c d:Int) (w:World) :
  Calls Tryz.prog 78 #[.agg #[.int .i64 a,.int .i64 b],.agg #[.int .i64 c,.int .i64 d]] w fun e w'=>e=.returned (.tuple #[.int .i64 (tuV a b c d),.int .i64 (tuE a b c d)])∧Below w.heap.size w w':=by
 obtain ⟨E,hE⟩:=nmz (tuE a b c d)
 have HE:=hJ hE
 clear hE
 obtain ⟨x1,aA⟩:=nmz ((w.alloc (.cells #[.int .i64 a,.int .i64 b] 71)).alloc (.cells #[.int .i64 c,.int .i64 d] 71))
 have aF:=hJ (show Below w.heap.size w x1 by rw [←aA]; exact (((Below.refl _ _).alloc (Nat.le_refl _) _).alloc (by simp only [World.size_alloc]; omega) _))
 have aG:=hJ (show BX 71 x1 w.heap.size #[.int .i64 a,.int .i64 b] by rw [←aA]; exact ((BX.at rfl).alloc _))
 have aH:=hJ (show BX 71 x1 (w.heap.size+1) #[.int .i64 c,.int .i64 d] by rw [←aA]; exact (BX.at (by simp only [World.size_alloc])))
 obtain ⟨aJ,aK⟩:=aG.out.c2 0 1 rfl rfl
 obtain ⟨aL,aM⟩:=aH.out.c2 0 1 rfl rfl
 obtain ⟨x6,aB⟩:=nmz (x1.alloc (.cells #[.int .i64 a,.int .i64 b,.int .i64 c,.int .i64 d] 71))
 have aC:=hJ (show Below x1.heap.size x1 x6 by rw [←aB]; exact ((Below.refl _ _).alloc (Nat.le_refl _) _))
 have aN:=hJ (show BX 71 x6 x1.heap.size #[.int .i64 a,.int .i64 b,.int .i64 c,.int .i64 d] by rw [←aB]; exact (BX.at rfl))
 go_enter Tryz.func78,Tryz.ntmps78
 go_wp2_with fail
 clear aA aJ aK aL aM aB
 refine (dirs_any [(a,b),(c,d)] 2 x1.heap.size x6 rfl (by decide) aN.out).mono ?_
 rw [show fsE diP [(a,b),(c,d)]=E from HE.out]
 rintro e w7 ⟨rfl,hb⟩
 have aD:=hJ hb
 clear hb
 by_cases hE0:E=0
 ·subst hE0
  have HV:=hJ (show tuV a b c d=angV a b c d from if_pos HE.out)
  have HA:=hJ (ang_wraps (di_nk (fs_two HE.out).1) (di_nk (fs_two HE.out).2))
  have aI:=hJ (bt aC.out aD.out)
  have aO:=hJ (BX.new aG.out aI.out)
  obtain ⟨aR,aS⟩:=aO.out.c2 0 1 rfl rfl
  have aT:=hJ (BX.new aH.out aI.out)
  obtain ⟨aU,aV⟩:=aT.out.c2 0 1 rfl rfl
  go_wp2_with fail
  clear aR aS aU aV
  refine (angles_any a b c d w7 HA.out).mono ?_
  rintro e w12 ⟨rfl,hb⟩
  have aW:=hJ hb
  clear hb
  have aX:=hJ (bt (bt (bt aF.out aC.out) aD.out) aW.out)
  go_wp2
  go_ret2
  exact ⟨by rw [HV.out,HE.out] <;> rfl,aX.out⟩
 ·have hEz:(E == 0)=false:=by simp [hE0]
  have HV:=hJ (show tuV a b c d=0 from if_neg (by rw [HE.out]; exact hE0))
  clear hE0
  have aY:=hJ (bt (bt aF.out aC.out) aD.out)
  go_wp2
  go_ret2
  exact ⟨by rw [HV.out,HE.out] <;> rfl,aY.out⟩
theorem sideof_any (ax ay bx by' cx cy:Int) (w:World) :
  Calls Tryz.prog 35 #[.agg #[.int .i64 ax,.int .i64 ay],.agg #[.int .i64 bx,.int .i64 by'],.agg #[.int .i64 cx,.int .i64 cy]] w fun e w'=>e=.returned (.tuple #[.int .i64 (soV ax ay bx by' cx cy),.int .i64 (soE ax ay bx by' cx cy)])∧Below w.heap.size w w':=by
 obtain ⟨E,hE⟩:=nmz (soE ax ay bx by' cx cy)
 have HE:=hJ hE
 clear hE
 obtain ⟨x1,aA⟩:=nmz (((w.alloc (.cells #[.int .i64 ax,.int .i64 ay] 71)).alloc (.cells #[.int .i64 bx,.int .i64 by'] 71)).alloc (.cells #[.int .i64 cx,.int .i64 cy] 71))
 have aG:=hJ (show Below w.heap.size w x1 by rw [←aA]; exact ((((Below.refl _ _).alloc (Nat.le_refl _) _).alloc (by simp only [World.size_alloc]; omega) _).alloc (by simp only [World.size_alloc]; omega) _))
 have aH:=hJ (show BX 71 x1 w.heap.size #[.int .i64 ax,.int .i64 ay] by rw [←aA]; exact (((BX.at rfl).alloc _).alloc _))
 have aI:=hJ (show BX 71 x1 (w.heap.size+1) #[.int .i64 bx,.int .i64 by'] by rw [←aA]; exact ((BX.at (by simp only [World.size_alloc])).alloc _))
 have aJ:=hJ (show BX 71 x1 (w.heap.size+2) #[.int .i64 cx,.int .i64 cy] by rw [←aA]; exact (BX.at (by simp only [World.size_alloc])))
 obtain ⟨aK,aL⟩:=aH.out.c2 0 1 rfl rfl
 obtain ⟨aM,aN⟩:=aI.out.c2 0 1 rfl rfl
 obtain ⟨aO,aR⟩:=aJ.out.c2 0 1 rfl rfl
 obtain ⟨x8,aB⟩:=nmz (x1.alloc (.cells #[.int .i64 ax,.int .i64 ay,.int .i64 bx,.int .i64 by',.int .i64 cx,.int .i64 cy] 71))
 have aC:=hJ (show Below x1.heap.size x1 x8 by rw [←aB]; exact ((Below.refl _ _).alloc (Nat.le_refl _) _))
 have aS:=hJ (show BX 71 x8 x1.heap.size #[.int .i64 ax,.int .i64 ay,.int .i64 bx,.int .i64 by',.int .i64 cx,.int .i64 cy] by rw [←aB]; exact (BX.at rfl))
 go_enter Tryz.func35,Tryz.ntmps35
 go_wp2_with fail
 clear aA aK aL aM aN aO aR aB
 refine (valids_any [(ax,ay),(bx,by'),(cx,cy)] 3 x1.heap.size x8 rfl (by decide) aS.out).mono ?_
 rw [show fsE vdP [(ax,ay),(bx,by'),(cx,cy)]=E from HE.out]
 rintro e w9 ⟨rfl,hb⟩
 have aD:=hJ hb
 clear hb
 by_cases hE0:E=0
 ·subst hE0
  have HG:=hJ (g3_ok (vd_nk (fs_cons HE.out).1) (vd_nk (fs_two (fs_cons HE.out).2).1) (vd_nk (fs_two (fs_cons HE.out).2).2))
  have HV:=hJ (show soV ax ay bx by' cx cy=sdV ax ay bx by' cx cy from if_pos HE.out)
  have aF:=hJ (bt aC.out aD.out)
  have aT:=hJ (BX.new aH.out aF.out)
  obtain ⟨aU,aV⟩:=aT.out.c2 0 1 rfl rfl
  have aW:=hJ (BX.new aI.out aF.out)
  obtain ⟨aX,aY⟩:=aW.out.c2 0 1 rfl rfl
  have aZ:=hJ (BX.new aJ.out aF.out)
  obtain ⟨bA,bB⟩:=aZ.out.c2 0 1 rfl rfl
  go_wp2_with fail
  clear aU aV aX aY bA bB
  refine (gridside_any ax ay bx by' cx cy w9 HG.out).mono ?_
  rintro e w16 ⟨rfl,hb⟩
  have bC:=hJ hb
  clear hb
  have bD:=hJ (bt (bt (bt aG.out aC.out) aD.out) bC.out)
  go_wp2
  go_ret2
  exact ⟨by rw [HV.out,HE.out] <;> rfl,bD.out⟩
 ·have hEz:(E == 0)=false:=by simp [hE0]
  have HV:=hJ (show soV ax ay bx by' cx cy=0 from if_neg (by rw [HE.out]; exact hE0))
  clear hE0
  have bE:=hJ (bt (bt aG.out aC.out) aD.out)
  go_wp2
  go_ret2
  exact ⟨by rw [HV.out,HE.out] <;> rfl,bE.out⟩
theorem nk_lim {k x:Int} (h:Nk k x) (hk:k≤1606938044258990275541962092341162602522202993782792835301376:=by decide):x.natAbs < lim:=by
 refine B2.lim (k:=201) (Nat.lt_of_le_of_lt (m:=1606938044258990275541962092341162602522202993782792835301376) (by have:=h.1; have:=h.2; omega) ?_) (by decide)
 show (1606938044258990275541962092341162602522202993782792835301376:Nat) < 2 ^ 201
 decide
/-- Two integers of the program. -/
def RetPP (x y:Int) (w:World) (e:Ending) (w':World):Prop:=∃ s A n c s' A' n' c',e=.returned (.agg #[.bool s,.slice A n c,.bool s',.slice A' n' c'])∧PI w' s A n c x∧PI w' s' A' n' c' y∧Below w.heap.size w w'
theorem W2_size:(Tryz.prog.info? 135).map (·.size)=some 4:=by kernel_rfl
theorem view_any (ax ay bx by' px py:Int) (w:World) (ha:Nk 1073741824 ax∧Nk 1073741824 ay) (hb:Nk 1073741824 bx∧Nk 1073741824 by') (hp:Nk 1073741824 px∧Nk 1073741824 py) :
  Calls Tryz.prog 88 #[.agg #[.int .i64 ax,.int .i64 ay],.agg #[.int .i64 bx,.int .i64 by'],.agg #[.int .i64 px,.int .i64 py]] w (RetPP (ahV ax ay bx by' px py) (lfV ax ay bx by' px py) w):=by
 have HD:=hJ (show (Nk 2147483648 (ax - px)∧Nk 2147483648 (ay - py))∧(Nk 2147483648 (bx - px)∧Nk 2147483648 (by' - py)) from ⟨⟨nk_diff ha.1 hp.1,nk_diff ha.2 hp.2⟩,nk_diff hb.1 hp.1,nk_diff hb.2 hp.2⟩)
 have HM:=hJ (show (Nk 4611686018427387904 ((ax - px)*(bx - px))∧Nk 4611686018427387904 ((ay - py)*(by' - py)))∧(Nk 4611686018427387904 ((ax - px)*(by' - py))∧Nk 4611686018427387904 ((ay - py)*(bx - px))) from ⟨⟨nk_mul HD.out.1.1 HD.out.2.1,nk_mul HD.out.1.2 HD.out.2.2⟩,nk_mul HD.out.1.1 HD.out.2.2,nk_mul HD.out.1.2 HD.out.2.1⟩)
 clear ha hb hp
 obtain ⟨x1,aY⟩:=nmz ((((w.alloc (.cells #[.int .i64 ax,.int .i64 ay] 71)).alloc (.cells #[.int .i64 bx,.int .i64 by'] 71)).alloc (.cells #[.int .i64 px,.int .i64 py] 71)).alloc (.cells #[.bool false,.slice none 0 0,.bool false,.slice none 0 0] 135))
 have gT:=hJ (show Below w.heap.size w x1 by rw [←aY]; exact (((((Below.refl _ _).alloc (Nat.le_refl _) _).alloc (by simp only [World.size_alloc]; omega) _).alloc (by simp only [World.size_alloc]; omega) _).alloc (by simp only [World.size_alloc]; omega) _))
 have dW:=hJ (show BX 71 x1 w.heap.size #[.int .i64 ax,.int .i64 ay] by rw [←aY]; exact ((((BX.at rfl).alloc _).alloc _).alloc _))
 have dX:=hJ (show BX 71 x1 (w.heap.size+1) #[.int .i64 bx,.int .i64 by'] by rw [←aY]; exact (((BX.at (by simp only [World.size_alloc])).alloc _).alloc _))
 have dY:=hJ (show BX 71 x1 (w.heap.size+2) #[.int .i64 px,.int .i64 py] by rw [←aY]; exact ((BX.at (by simp only [World.size_alloc])).alloc _))
 have gU:=hJ (show BX 135 x1 (w.heap.size+3) #[.bool false,.slice none 0 0,.bool false,.slice none 0 0] by rw [←aY]; exact (BX.at (by simp only [World.size_alloc])))
 have gV:=hJ (show w.heap.size≤w.heap.size+3 by omega)
 have aG:Hid (∀ w',Below x1.heap.size x1 w'→(fun w':World=>w'.cell? ⟨w.heap.size+2,0,none⟩=some (.int .i64 px)∧w'.cell? ⟨w.heap.size+2,1,none⟩=some (.int .i64 py)∧w'.cell? ⟨w.heap.size,0,none⟩=some (.int .i64 ax)∧w'.cell? ⟨w.heap.size,1,none⟩=some (.int .i64 ay)∧w'.cell? ⟨w.heap.size+1,0,none⟩=some (.int .i64 bx)∧w'.cell? ⟨w.heap.size+1,1,none⟩=some (.int .i64 by')∧Below x1.heap.size x1 w') w'):=hJ (fun w' hb=>⟨(BX.new dY.out hb).cell 0 rfl,(BX.new dY.out hb).cell 1 rfl,(BX.new dW.out hb).cell 0 rfl,(BX.new dW.out hb).cell 1 rfl,(BX.new dX.out hb).cell 0 rfl,(BX.new dX.out hb).cell 1 rfl,hb⟩)
 go_enter Tryz.func88,Tryz.ntmps88
 go_wp2_with fail
 clear aY
 obtain ⟨v2,hv2⟩:=nmz (World.drew x1)
 have bD:=hJ (show Below x1.heap.size x1 v2 by rw [←hv2]; exact (Below.refl _ _).drew)
 refine whd aG hv2 (fun hHeld=>?_)
 clear hv2
 refine tq 0 ?_
 refine tq 1 ?_
 refine tq 3 ?_
 refine tq 4 ?_
 try simp only [PT]
 refine wpAnyH_name (fun F hF a0 ha0 L0 hL0=>?_)
 have aZ:∀ (aB:Nat) (aC:Nat) (v:World),Hid (Below x1.heap.size x1 v)→Hid (BX 71 v aB #[.int .i64 0,.int .i64 0])→Hid (x1.heap.size≤aB)→Hid (BX 71 v aC #[.int .i64 0,.int .i64 0])→Hid (x1.heap.size≤aC)→Hid (aB≠aC)→F 2 (Array.setIfInBounds (Array.setIfInBounds (Array.setIfInBounds (Array.setIfInBounds L0 2 true) 5 true) 6 true) 7 true) (Act.put (Act.put (Act.put (Act.put a0 (some 15) (.agg #[.int .i64 (ax - px),.int .i64 (ay - py)])) (some 18) (.agg #[.int .i64 (bx - px),.int .i64 (by' - py)])) (some 7) (.pointer (some ⟨aB,0,none⟩))) (some 8) (.pointer (some ⟨aC,0,none⟩))) v:=by
  intro aB aC v aA aH aN aK aO bA
  subst hF ha0 hL0
  simp only [PT] at  ⊢
  have hHeld:=aG.out _ aA.out
  refine ryy [8] ?_
  refine .cons rfl (fun K hK=>?_) .nil
  have z3_0:=aH.out.cell 0 rfl
  have y3_0:=aH.out.frozen 0
  have z3_1:=aH.out.cell 1 rfl
  have y3_1:=aH.out.frozen 1
  have z3:=aH.out.lt
  go_simp
  obtain ⟨v3,hV⟩:=nmz (World.setCell (World.setCell v ⟨aB,0,none⟩ (.int .i64 (ax - px))) ⟨aB,1,none⟩ (.int .i64 (ay - py)))
  rw [hV]
  have cB:=hJ (show sto v aB 0 [.int .i64 (ax - px),.int .i64 (ay - py)]=v3 from hV)
  clear hV z3 z3_0 y3_0 z3_1 y3_1
  have dZ:=hJ (show Below x1.heap.size x1 v3 by rw [←cB.out]; exact below_sto aA.out aN.out _ _)
  have bB:=hJ (show BX 71 v3 aC #[.int .i64 0,.int .i64 0] by rw [←cB.out]; exact BX.far aK.out bA.out.symm _ _)
  have gW:=hJ (show BX 71 v3 aB #[.int .i64 (ax - px),.int .i64 (ay - py)] by rw [←cB.out]; exact BX.put aH.out _ _)
  clear hHeld
  refine hK.out _ _ (aG.out _ dZ.out) (fun hHeld=>?_)
  clear hK K
  try simp only [PT]
  refine ryy [9] ?_
  refine .cons rfl (fun K hK=>?_) .nil
  have z4_0:=bB.out.cell 0 rfl
  have y4_0:=bB.out.frozen 0
  have z4_1:=bB.out.cell 1 rfl
  have y4_1:=bB.out.frozen 1
  have z4:=bB.out.lt
  go_simp
  obtain ⟨v4,hV⟩:=nmz (World.setCell (World.setCell v3 ⟨aC,0,none⟩ (.int .i64 (bx - px))) ⟨aC,1,none⟩ (.int .i64 (by' - py)))
  rw [hV]
  have cC:=hJ (show sto v3 aC 0 [.int .i64 (bx - px),.int .i64 (by' - py)]=v4 from hV)
  clear hV z4 z4_0 y4_0 z4_1 y4_1
  have cD:=hJ (show Below x1.heap.size x1 v4 by rw [←cC.out]; exact below_sto dZ.out aO.out _ _)
  have cE:=hJ (show BX 71 v4 aB #[.int .i64 (ax - px),.int .i64 (ay - py)] by rw [←cC.out]; exact BX.far gW.out bA.out _ _)
  have cF:=hJ (show BX 71 v4 aC #[.int .i64 (bx - px),.int .i64 (by' - py)] by rw [←cC.out]; exact BX.put bB.out _ _)
  clear hHeld
  refine hK.out _ _ (aG.out _ cD.out) (fun hHeld=>?_)
  clear hK K
  try simp only [PT]
  refine wpAnyH_done (by kernel_rfl) ?_ _
  clear hHeld
  have bJ:=hJ (in_lim (nk_lim (nk_add HM.out.1.1 HM.out.1.2)))
  have aI:Hid (∀ w',Below v4.heap.size v4 w'→(fun w':World=>w'.cell? ⟨aB,0,none⟩=some (.int .i64 (ax - px))∧w'.cell? ⟨aC,0,none⟩=some (.int .i64 (bx - px))∧w'.cell? ⟨aB,1,none⟩=some (.int .i64 (ay - py))∧w'.cell? ⟨aC,1,none⟩=some (.int .i64 (by' - py))∧Below v4.heap.size v4 w') w'):=hJ (fun w' hb=>⟨(BX.new cE.out hb).cell 0 rfl,(BX.new cF.out hb).cell 0 rfl,(BX.new cE.out hb).cell 1 rfl,(BX.new cF.out hb).cell 1 rfl,hb⟩)
  go_wp2_with fail
  obtain ⟨v7,hv7⟩:=nmz (World.drew v4)
  have cG:=hJ (show Below v4.heap.size v4 v7 by rw [←hv7]; exact (Below.refl _ _).drew)
  refine whd aI hv7 (fun hHeld=>?_)
  clear hv7
  refine tq 0 ?_
  refine tq 1 ?_
  refine tq 2 ?_
  refine tq 3 ?_
  try simp only [PT]
  refine tk 4 (.int .i64 ((ax - px)*(bx - px))) ?_ ?_
  ·intro w hSw
   (try dsimp only at hSw)
   go_simp
   rw [i6_wrap (nk_i6 HM.out.1.1 (by decide))]
  refine tq 6 ?_
  refine tq 7 ?_
  refine tq 8 ?_
  refine tq 9 ?_
  try simp only [PT]
  refine tk 10 (.int .i64 ((ay - py)*(by' - py))) ?_ ?_
  ·intro w hSw
   (try dsimp only at hSw)
   go_simp
   rw [i6_wrap (nk_i6 HM.out.1.2 (by decide))]
  try simp only [PT]
  refine wpAnyH_name (fun F hF a0 ha0 L0 hL0=>?_)
  have bK:∀ (s11:Bool) (A11:Option Addr) (n11:Nat) (c11:Nat) (s12:Bool) (A12:Option Addr) (n12:Nat) (c12:Nat) (s14:Bool) (A14:Option Addr) (n14:Nat) (c14:Nat) (aD:Nat) (v:World),Hid (Below v4.heap.size v4 v)→Hid (PI v s11 A11 n11 c11 ((ax - px)*(bx - px)))→Hid (PI v s12 A12 n12 c12 ((ay - py)*(by' - py)))→Hid (PI v s14 A14 n14 c14 (((ax - px)*(bx - px))+((ay - py)*(by' - py))))→Hid (BX 25 v aD #[.bool false,.slice none 0 0])→Hid (v4.heap.size≤aD)→F 2 (Array.setIfInBounds (Array.setIfInBounds (Array.setIfInBounds (Array.setIfInBounds (Array.setIfInBounds (Array.setIfInBounds (Array.setIfInBounds L0 5 true) 11 true) 12 true) 16 true) 13 true) 14 true) 15 true) (Act.put (Act.put (Act.put (Act.put (Act.put (Act.put (Act.put a0 (some 25) (.agg #[.bool s11,.slice A11 n11 c11])) (some 31) (.agg #[.bool s12,.slice A12 n12 c12])) (some 32) (.tuple #[.agg #[.bool s14,.slice A14 n14 c14],.int .i64 0])) (some 9) (.pointer (some ⟨aD,0,none⟩))) (some 19) (.tuple #[.agg #[.bool s14,.slice A14 n14 c14],.int .i64 0])) (some 33) (.agg #[.bool s14,.slice A14 n14 c14])) (some 34) (.int .i64 0)) v:=by
   intro s11 A11 n11 c11 s12 A12 n12 c12 s14 A14 n14 c14 aD v aA aL aT cH aR aW
   subst hF ha0 hL0
   simp only [PT] at  ⊢
   have hHeld:=aI.out _ aA.out
   refine ryy [17] ?_
   refine .cons rfl (fun K hK=>?_) .nil
   have z8_0:=aR.out.cell 0 rfl
   have y8_0:=aR.out.frozen 0
   have z8_1:=aR.out.cell 1 rfl
   have y8_1:=aR.out.frozen 1
   have z8:=aR.out.lt
   go_simp
   obtain ⟨v8,hV⟩:=nmz (World.setCell (World.setCell v ⟨aD,0,none⟩ (.bool s14)) ⟨aD,1,none⟩ (.slice A14 n14 c14))
   rw [hV]
   have cI:=hJ (show sto v aD 0 [.bool s14,.slice A14 n14 c14]=v8 from hV)
   clear hV z8 z8_0 y8_0 z8_1 y8_1
   have bE:=hJ (show Below v4.heap.size v4 v8 by rw [←cI.out]; exact below_sto aA.out aW.out _ _)
   have gX:=hJ (show PI v8 s14 A14 n14 c14 (((ax - px)*(bx - px))+((ay - py)*(by' - py))) by rw [←cI.out]; exact PIo.sto cH.out aR.out rfl _ _)
   have gY:=hJ (show BX 25 v8 aD #[.bool s14,.slice A14 n14 c14] by rw [←cI.out]; exact BX.put aR.out _ _)
   clear hHeld
   refine hK.out _ _ (aI.out _ bE.out) (fun hHeld=>?_)
   clear hK K
   refine tq 18 ?_
   try simp only [PT]
   refine wpAnyH_done (by kernel_rfl) ?_ _
   clear hHeld
   have bL:=hJ (in_lim (nk_lim (nk_sub HM.out.2.1 HM.out.2.2)))
   have eA:=hJ (BX.new cE.out bE.out)
   have eB:=hJ (BX.new cF.out bE.out)
   have aJ:Hid (∀ w',Below v8.heap.size v8 w'→(fun w':World=>w'.cell? ⟨aB,0,none⟩=some (.int .i64 (ax - px))∧w'.cell? ⟨aC,1,none⟩=some (.int .i64 (by' - py))∧w'.cell? ⟨aB,1,none⟩=some (.int .i64 (ay - py))∧w'.cell? ⟨aC,0,none⟩=some (.int .i64 (bx - px))∧Below v8.heap.size v8 w') w'):=hJ (fun w' hb=>⟨(BX.new eA.out hb).cell 0 rfl,(BX.new eB.out hb).cell 1 rfl,(BX.new eA.out hb).cell 1 rfl,(BX.new eB.out hb).cell 0 rfl,hb⟩)
   go_wp2_with fail
   obtain ⟨v10,hv10⟩:=nmz (World.drew v8)
   have cJ:=hJ (show Below v8.heap.size v8 v10 by rw [←hv10]; exact (Below.refl _ _).drew)
   refine whd aJ hv10 (fun hHeld=>?_)
   clear hv10
   refine tq 0 ?_
   refine tq 1 ?_
   refine tq 2 ?_
   refine tq 3 ?_
   try simp only [PT]
   refine tk 4 (.int .i64 ((ax - px)*(by' - py))) ?_ ?_
   ·intro w hSw
    (try dsimp only at hSw)
    go_simp
    rw [i6_wrap (nk_i6 HM.out.2.1 (by decide))]
   refine tq 6 ?_
   refine tq 7 ?_
   refine tq 8 ?_
   refine tq 9 ?_
   try simp only [PT]
   refine tk 10 (.int .i64 ((ay - py)*(bx - px))) ?_ ?_
   ·intro w hSw
    (try dsimp only at hSw)
    go_simp
    rw [i6_wrap (nk_i6 HM.out.2.2 (by decide))]
   try simp only [PT]
   refine wpAnyH_name (fun F hF a0 ha0 L0 hL0=>?_)
   have bM:∀ (s15:Bool) (A15:Option Addr) (n15:Nat) (c15:Nat) (s16:Bool) (A16:Option Addr) (n16:Nat) (c16:Nat) (s18:Bool) (A18:Option Addr) (n18:Nat) (c18:Nat) (aF:Nat) (v:World),Hid (Below v8.heap.size v8 v)→Hid (PI v s15 A15 n15 c15 ((ax - px)*(by' - py)))→Hid (PI v s16 A16 n16 c16 ((ay - py)*(bx - px)))→Hid (PI v s18 A18 n18 c18 (((ax - px)*(by' - py)) - ((ay - py)*(bx - px))))→Hid (BX 25 v aF #[.bool false,.slice none 0 0])→Hid (v8.heap.size≤aF)→F 2 (Array.setIfInBounds (Array.setIfInBounds (Array.setIfInBounds (Array.setIfInBounds (Array.setIfInBounds (Array.setIfInBounds (Array.setIfInBounds L0 5 true) 11 true) 12 true) 16 true) 13 true) 14 true) 15 true) (Act.put (Act.put (Act.put (Act.put (Act.put (Act.put (Act.put a0 (some 41) (.agg #[.bool s15,.slice A15 n15 c15])) (some 47) (.agg #[.bool s16,.slice A16 n16 c16])) (some 48) (.tuple #[.agg #[.bool s18,.slice A18 n18 c18],.int .i64 0])) (some 11) (.pointer (some ⟨aF,0,none⟩))) (some 35) (.tuple #[.agg #[.bool s18,.slice A18 n18 c18],.int .i64 0])) (some 49) (.agg #[.bool s18,.slice A18 n18 c18])) (some 50) (.int .i64 0)) v:=by
    intro s15 A15 n15 c15 s16 A16 n16 c16 s18 A18 n18 c18 aF v aA aM aU cK aS aX
    subst hF ha0 hL0
    simp only [PT] at  ⊢
    have hHeld:=aJ.out _ aA.out
    refine ryy [17] ?_
    refine .cons rfl (fun K hK=>?_) .nil
    have z11_0:=aS.out.cell 0 rfl
    have y11_0:=aS.out.frozen 0
    have z11_1:=aS.out.cell 1 rfl
    have y11_1:=aS.out.frozen 1
    have z11:=aS.out.lt
    go_simp
    obtain ⟨v11,hV⟩:=nmz (World.setCell (World.setCell v ⟨aF,0,none⟩ (.bool s18)) ⟨aF,1,none⟩ (.slice A18 n18 c18))
    rw [hV]
    have cL:=hJ (show sto v aF 0 [.bool s18,.slice A18 n18 c18]=v11 from hV)
    clear hV z11 z11_0 y11_0 z11_1 y11_1
    have bF:=hJ (show Below v8.heap.size v8 v11 by rw [←cL.out]; exact below_sto aA.out aX.out _ _)
    have gZ:=hJ (show PI v11 s18 A18 n18 c18 (((ax - px)*(by' - py)) - ((ay - py)*(bx - px))) by rw [←cL.out]; exact PIo.sto cK.out aS.out rfl _ _)
    have hA:=hJ (show BX 25 v11 aF #[.bool s18,.slice A18 n18 c18] by rw [←cL.out]; exact BX.put aS.out _ _)
    clear hHeld
    refine hK.out _ _ (aJ.out _ bF.out) (fun hHeld=>?_)
    clear hK K
    refine tq 18 ?_
    try simp only [PT]
    refine wpAnyH_done (by kernel_rfl) ?_ _
    clear hHeld
    have hB:=hJ (BX.new gY.out bF.out)
    obtain ⟨hC,hD⟩:=hB.out.c2 0 1 rfl rfl
    obtain ⟨hE,hG⟩:=hA.out.c2 0 1 rfl rfl
    have hH:=hJ (bt (bt cD.out bE.out) bF.out)
    have aV:=hJ (BX.new gU.out hH.out)
    have hI:=aV.out.frozen 0
    have hL:=aV.out.cell 0 rfl
    have hM:=aV.out.frozen 1
    have hN:=aV.out.cell 1 rfl
    have hO:=aV.out.frozen 2
    have hP:=aV.out.cell 2 rfl
    have hQ:=aV.out.frozen 3
    have hR:=aV.out.cell 3 rfl
    obtain ⟨x17,eC⟩:=nmz (World.setCell (World.setCell (World.setCell (World.setCell v11 ⟨w.heap.size+3,0,none⟩ (.bool s14)) ⟨w.heap.size+3,1,none⟩ (.slice A14 n14 c14)) ⟨w.heap.size+3,2,none⟩ (.bool s18)) ⟨w.heap.size+3,3,none⟩ (.slice A18 n18 c18))
    have bN:=hJ (show sto v11 (w.heap.size+3) 0 [.bool s14,.slice A14 n14 c14,.bool s18,.slice A18 n18 c18]=x17 from eC)
    have hS:=hJ (show BX 135 x17 (w.heap.size+3) #[.bool s14,.slice A14 n14 c14,.bool s18,.slice A18 n18 c18] by rw [←bN.out]; exact BX.put aV.out _ _)
    have hT:=hJ (show Below w.heap.size w x17 by rw [←bN.out]; exact below_sto (bt (bt (bt gT.out cD.out) bE.out) bF.out) gV.out _ _)
    have hU:=hJ (PIo.new gX.out bF.out)
    have hW:=hJ (show PI x17 s14 A14 n14 c14 (((ax - px)*(bx - px))+((ay - py)*(by' - py))) by rw [←bN.out]; exact PIo.sto hU.out aV.out rfl _ _)
    have hX:=hJ (show PI x17 s18 A18 n18 c18 (((ax - px)*(by' - py)) - ((ay - py)*(bx - px))) by rw [←bN.out]; exact PIo.sto gZ.out aV.out rfl _ _)
    go_wp2
    clear hC hD hE hG hI hL hM hN hO hP hQ hR eC
    exact bodyPost_ret (results_cell_row rfl _ _ _ _ _ _ _ rfl hS.out Tryz.underlying135 rfl W2_size) rfl ⟨s14,A14,n14,c14,s18,A18,n18,c18,rfl,hW.out,hX.out,hT.out⟩
   have eD:∀ (s15:Bool) (A15:Option Addr) (n15:Nat) (c15:Nat) (s16:Bool) (A16:Option Addr) (n16:Nat) (c16:Nat) (s18:Bool) (A18:Option Addr) (n18:Nat) (c18:Nat) (v:World),Hid (Below v8.heap.size v8 v)→Hid (PI v s15 A15 n15 c15 ((ax - px)*(by' - py)))→Hid (PI v s16 A16 n16 c16 ((ay - py)*(bx - px)))→Hid (PI v s18 A18 n18 c18 (((ax - px)*(by' - py)) - ((ay - py)*(bx - px))))→F 3 (Array.setIfInBounds (Array.setIfInBounds (Array.setIfInBounds (Array.setIfInBounds (Array.setIfInBounds (Array.setIfInBounds L0 5 true) 11 true) 12 true) 13 true) 14 true) 15 true) (Act.put (Act.put (Act.put (Act.put (Act.put (Act.put a0 (some 41) (.agg #[.bool s15,.slice A15 n15 c15])) (some 47) (.agg #[.bool s16,.slice A16 n16 c16])) (some 48) (.tuple #[.agg #[.bool s18,.slice A18 n18 c18],.int .i64 0])) (some 35) (.tuple #[.agg #[.bool s18,.slice A18 n18 c18],.int .i64 0])) (some 49) (.agg #[.bool s18,.slice A18 n18 c18])) (some 50) (.int .i64 0)) v:=by
    intro s15 A15 n15 c15 s16 A16 n16 c16 s18 A18 n18 c18 v aA aM aU cK
    subst hF ha0 hL0
    simp only [PT] at bM ⊢
    have hHeld:=aJ.out _ aA.out
    refine ryy [16] ?_
    refine .cons rfl (fun K hK=>?_) .nil
    go_simp
    have bG:=hJ ((Below.refl v.heap.size v).alloc (Nat.le_refl _) (.cells #[.bool false,.slice none 0 0] 25))
    have cM:=hJ (BX.lit v 25 #[.bool false,.slice none 0 0])
    obtain ⟨v18,hV⟩:=nmz (World.alloc v (.cells #[.bool false,.slice none 0 0] 25))
    obtain ⟨aF,hg⟩:=nmz (v.heap.size)
    rw [hV] at bG cM ⊢
    rw [hg] at cM ⊢
    have hY:=hJ (show v8.heap.size≤aF by rw [←hg]; exact aA.out.size)
    clear hV hg
    have eE:=hJ (bt aA.out bG.out)
    have hZ:=hJ (PIo.new aM.out bG.out)
    have iA:=hJ (PIo.new aU.out bG.out)
    have iB:=hJ (PIo.new cK.out bG.out)
    clear hHeld
    refine hK.out _ _ (aJ.out _ eE.out) (fun hHeld=>?_)
    clear hK K
    try simp only [PT]
    exact wpAnyH_cast (by kernel_rfl) (bM s15 A15 n15 c15 s16 A16 n16 c16 s18 A18 n18 c18 aF v18 eE hZ iA iB cM hY)
   have bO:∀ (s15:Bool) (A15:Option Addr) (n15:Nat) (c15:Nat) (s16:Bool) (A16:Option Addr) (n16:Nat) (c16:Nat) (aF:Nat) (v:World),Hid (Below v8.heap.size v8 v)→Hid (PI v s15 A15 n15 c15 ((ax - px)*(by' - py)))→Hid (PI v s16 A16 n16 c16 ((ay - py)*(bx - px)))→Hid (BX 25 v aF #[.bool false,.slice none 0 0])→Hid (v8.heap.size≤aF)→F 6 (Array.setIfInBounds (Array.setIfInBounds (Array.setIfInBounds L0 5 true) 11 true) 16 true) (Act.put (Act.put (Act.put a0 (some 41) (.agg #[.bool s15,.slice A15 n15 c15])) (some 47) (.agg #[.bool s16,.slice A16 n16 c16])) (some 11) (.pointer (some ⟨aF,0,none⟩))) v:=by
    intro s15 A15 n15 c15 s16 A16 n16 c16 aF v aA aM aU aS aX
    subst hF ha0 hL0
    simp only [PT] at bM ⊢
    have hHeld:=aJ.out _ aA.out
    refine ryy [12] ?_
    refine .cons rfl (fun K hK=>?_) .nil
    go_simp
    go_at_call 87
    refine (psub_any ((ax - px)*(by' - py)) ((ay - py)*(bx - px)) s15 s16 A15 A16 n15 c15 n16 c16 v aM.out aU.out (Nat.le_trans (plim aM.out (nk_lim HM.out.2.1)) (by decide)) (Nat.le_trans (plim aU.out (nk_lim HM.out.2.2)) (by decide)) (nk_lim HM.out.2.1) (nk_lim HM.out.2.2)).mono ?_
    rw [bL.out.1,bL.out.2]
    rintro e v19 ⟨s18,A18,n18,c18,rfl,hr18,hb⟩
    have bP:=hJ hb
    have iC:=hJ hr18
    clear hb hr18
    go_wp2_with fail
    have eF:=hJ (bt aA.out bP.out)
    have iD:=hJ (PIo.new aM.out bP.out)
    have iE:=hJ (PIo.new aU.out bP.out)
    have iF:=hJ (BX.new aS.out bP.out)
    clear hHeld
    refine hK.out _ _ (aJ.out _ eF.out) (fun hHeld=>?_)
    clear hK K
    refine tq 13 ?_
    refine tq 14 ?_
    refine tq 15 ?_
    try simp only [PT]
    exact wpAnyH_cast (by kernel_rfl) (bM s15 A15 n15 c15 s16 A16 n16 c16 s18 A18 n18 c18 aF v19 eF iD iE iC iF aX)
   have eG:∀ (s15:Bool) (A15:Option Addr) (n15:Nat) (c15:Nat) (s16:Bool) (A16:Option Addr) (n16:Nat) (c16:Nat) (v:World),Hid (Below v8.heap.size v8 v)→Hid (PI v s15 A15 n15 c15 ((ax - px)*(by' - py)))→Hid (PI v s16 A16 n16 c16 ((ay - py)*(bx - px)))→F 7 (Array.setIfInBounds (Array.setIfInBounds L0 5 true) 11 true) (Act.put (Act.put a0 (some 41) (.agg #[.bool s15,.slice A15 n15 c15])) (some 47) (.agg #[.bool s16,.slice A16 n16 c16])) v:=by
    intro s15 A15 n15 c15 s16 A16 n16 c16 v aA aM aU
    subst hF ha0 hL0
    simp only [PT] at eD bO ⊢
    have hHeld:=aJ.out _ aA.out
    refine ryy [12,16] ?_
    refine .cons rfl (fun K hK=>?_) ?_
    go_simp
    go_at_call 87
    refine (psub_any ((ax - px)*(by' - py)) ((ay - py)*(bx - px)) s15 s16 A15 A16 n15 c15 n16 c16 v aM.out aU.out (Nat.le_trans (plim aM.out (nk_lim HM.out.2.1)) (by decide)) (Nat.le_trans (plim aU.out (nk_lim HM.out.2.2)) (by decide)) (nk_lim HM.out.2.1) (nk_lim HM.out.2.2)).mono ?_
    rw [bL.out.1,bL.out.2]
    rintro e v20 ⟨s18,A18,n18,c18,rfl,hr18,hb⟩
    have cN:=hJ hb
    have iG:=hJ hr18
    clear hb hr18
    go_wp2_with fail
    have eH:=hJ (bt aA.out cN.out)
    have iH:=hJ (PIo.new aM.out cN.out)
    have iI:=hJ (PIo.new aU.out cN.out)
    clear hHeld
    refine hK.out _ _ (aJ.out _ eH.out) (fun hHeld=>?_)
    clear hK K
    refine tq 13 ?_
    refine tq 14 ?_
    refine tq 15 ?_
    try simp only [PT]
    exact wpAnyH_cast (by kernel_rfl) (eD s15 A15 n15 c15 s16 A16 n16 c16 s18 A18 n18 c18 v20 eH iH iI iG)
    refine .cons rfl (fun K hK=>?_) .nil
    go_simp
    have bQ:=hJ ((Below.refl v.heap.size v).alloc (Nat.le_refl _) (.cells #[.bool false,.slice none 0 0] 25))
    have cO:=hJ (BX.lit v 25 #[.bool false,.slice none 0 0])
    obtain ⟨v21,hV⟩:=nmz (World.alloc v (.cells #[.bool false,.slice none 0 0] 25))
    obtain ⟨aF,hg⟩:=nmz (v.heap.size)
    rw [hV] at bQ cO ⊢
    rw [hg] at cO ⊢
    have iJ:=hJ (show v8.heap.size≤aF by rw [←hg]; exact aA.out.size)
    clear hV hg
    have eI:=hJ (bt aA.out bQ.out)
    have iK:=hJ (PIo.new aM.out bQ.out)
    have iL:=hJ (PIo.new aU.out bQ.out)
    clear hHeld
    refine hK.out _ _ (aJ.out _ eI.out) (fun hHeld=>?_)
    clear hK K
    try simp only [PT]
    exact wpAnyH_cast (by kernel_rfl) (bO s15 A15 n15 c15 s16 A16 n16 c16 aF v21 eI iK iL cO iJ)
   have bR:∀ (s15:Bool) (A15:Option Addr) (n15:Nat) (c15:Nat) (aF:Nat) (v:World),Hid (Below v8.heap.size v8 v)→Hid (PI v s15 A15 n15 c15 ((ax - px)*(by' - py)))→Hid (BX 25 v aF #[.bool false,.slice none 0 0])→Hid (v8.heap.size≤aF)→F 7 (Array.setIfInBounds (Array.setIfInBounds L0 5 true) 16 true) (Act.put (Act.put a0 (some 41) (.agg #[.bool s15,.slice A15 n15 c15])) (some 11) (.pointer (some ⟨aF,0,none⟩))) v:=by
    intro s15 A15 n15 c15 aF v aA aM aS aX
    subst hF ha0 hL0
    simp only [PT] at bO ⊢
    have hHeld:=aJ.out _ aA.out
    refine ryy [11] ?_
    refine .cons rfl (fun K hK=>?_) .nil
    go_simp
    go_at_call 20
    refine (from_any ((ay - py)*(bx - px)) v (i6_wf (nk_i6 HM.out.2.2 (by decide)))).mono ?_
    rintro e v22 ⟨s16,A16,n16,c16,rfl,hr16,hb⟩
    have cP:=hJ hb
    have iM:=hJ hr16
    clear hb hr16
    go_wp2_with fail
    have eJ:=hJ (bt aA.out cP.out)
    have iN:=hJ (PIo.new aM.out cP.out)
    have iO:=hJ (BX.new aS.out cP.out)
    clear hHeld
    refine hK.out _ _ (aJ.out _ eJ.out) (fun hHeld=>?_)
    clear hK K
    try simp only [PT]
    exact wpAnyH_cast (by kernel_rfl) (bO s15 A15 n15 c15 s16 A16 n16 c16 aF v22 eJ iN iM iO aX)
   have eK:∀ (s15:Bool) (A15:Option Addr) (n15:Nat) (c15:Nat) (v:World),Hid (Below v8.heap.size v8 v)→Hid (PI v s15 A15 n15 c15 ((ax - px)*(by' - py)))→F 8 (Array.setIfInBounds L0 5 true) (Act.put a0 (some 41) (.agg #[.bool s15,.slice A15 n15 c15])) v:=by
    intro s15 A15 n15 c15 v aA aM
    subst hF ha0 hL0
    simp only [PT] at eG bR ⊢
    have hHeld:=aJ.out _ aA.out
    refine ryy [11,16] ?_
    refine .cons rfl (fun K hK=>?_) ?_
    go_simp
    go_at_call 20
    refine (from_any ((ay - py)*(bx - px)) v (i6_wf (nk_i6 HM.out.2.2 (by decide)))).mono ?_
    rintro e v23 ⟨s16,A16,n16,c16,rfl,hr16,hb⟩
    have eL:=hJ hb
    have iP:=hJ hr16
    clear hb hr16
    go_wp2_with fail
    have eM:=hJ (bt aA.out eL.out)
    have iQ:=hJ (PIo.new aM.out eL.out)
    clear hHeld
    refine hK.out _ _ (aJ.out _ eM.out) (fun hHeld=>?_)
    clear hK K
    try simp only [PT]
    exact wpAnyH_cast (by kernel_rfl) (eG s15 A15 n15 c15 s16 A16 n16 c16 v23 eM iQ iP)
    refine .cons rfl (fun K hK=>?_) .nil
    go_simp
    have cQ:=hJ ((Below.refl v.heap.size v).alloc (Nat.le_refl _) (.cells #[.bool false,.slice none 0 0] 25))
    have cR:=hJ (BX.lit v 25 #[.bool false,.slice none 0 0])
    obtain ⟨v24,hV⟩:=nmz (World.alloc v (.cells #[.bool false,.slice none 0 0] 25))
    obtain ⟨aF,hg⟩:=nmz (v.heap.size)
    rw [hV] at cQ cR ⊢
    rw [hg] at cR ⊢
    have iR:=hJ (show v8.heap.size≤aF by rw [←hg]; exact aA.out.size)
    clear hV hg
    have eN:=hJ (bt aA.out cQ.out)
    have iS:=hJ (PIo.new aM.out cQ.out)
    clear hHeld
    refine hK.out _ _ (aJ.out _ eN.out) (fun hHeld=>?_)
    clear hK K
    try simp only [PT]
    exact wpAnyH_cast (by kernel_rfl) (bR s15 A15 n15 c15 aF v24 eN iS cR iR)
   have eO:∀ (aF:Nat) (v:World),Hid (Below v8.heap.size v8 v)→Hid (BX 25 v aF #[.bool false,.slice none 0 0])→Hid (v8.heap.size≤aF)→F 8 (Array.setIfInBounds L0 16 true) (Act.put a0 (some 11) (.pointer (some ⟨aF,0,none⟩))) v:=by
    intro aF v aA aS aX
    subst hF ha0 hL0
    simp only [PT] at bR ⊢
    have hHeld:=aJ.out _ aA.out
    refine ryy [5] ?_
    refine .cons rfl (fun K hK=>?_) .nil
    go_simp
    go_at_call 20
    refine (from_any ((ax - px)*(by' - py)) v (i6_wf (nk_i6 HM.out.2.1 (by decide)))).mono ?_
    rintro e v25 ⟨s15,A15,n15,c15,rfl,hr15,hb⟩
    have eP:=hJ hb
    have iT:=hJ hr15
    clear hb hr15
    go_wp2_with fail
    have eQ:=hJ (bt aA.out eP.out)
    have iU:=hJ (BX.new aS.out eP.out)
    clear hHeld
    refine hK.out _ _ (aJ.out _ eQ.out) (fun hHeld=>?_)
    clear hK K
    try simp only [PT]
    exact wpAnyH_cast (by kernel_rfl) (bR s15 A15 n15 c15 aF v25 eQ iT iU aX)
   subst hF ha0 hL0
   simp only [PT] at eK eO
   refine ryy [5,16] ?_
   refine .cons rfl (fun K hK=>?_) ?_
   go_simp
   go_at_call 20
   refine (from_any ((ax - px)*(by' - py)) v10 (i6_wf (nk_i6 HM.out.2.1 (by decide)))).mono ?_
   rintro e v26 ⟨s15,A15,n15,c15,rfl,hr15,hb⟩
   have iV:=hJ hb
   have iW:=hJ hr15
   clear hb hr15
   go_wp2_with fail
   have eR:=hJ (bt cJ.out iV.out)
   clear hHeld
   refine hK.out _ _ (aJ.out _ eR.out) (fun hHeld=>?_)
   clear hK K
   try simp only [PT]
   exact wpAnyH_cast (by kernel_rfl) (eK s15 A15 n15 c15 v26 eR iW)
   refine .cons rfl (fun K hK=>?_) .nil
   go_simp
   have eS:=hJ ((Below.refl v10.heap.size v10).alloc (Nat.le_refl _) (.cells #[.bool false,.slice none 0 0] 25))
   have cS:=hJ (BX.lit v10 25 #[.bool false,.slice none 0 0])
   obtain ⟨v27,hV⟩:=nmz (World.alloc v10 (.cells #[.bool false,.slice none 0 0] 25))
   obtain ⟨aF,hg⟩:=nmz (v10.heap.size)
   rw [hV] at eS cS ⊢
   rw [hg] at cS ⊢
   have iX:=hJ (show v8.heap.size≤aF by rw [←hg]; exact cJ.out.size)
   clear hV hg
   have eT:=hJ (bt cJ.out eS.out)
   clear hHeld
   refine hK.out _ _ (aJ.out _ eT.out) (fun hHeld=>?_)
   clear hK K
   try simp only [PT]
   exact wpAnyH_cast (by kernel_rfl) (eO aF v27 eT cS iX)
  have eU:∀ (s11:Bool) (A11:Option Addr) (n11:Nat) (c11:Nat) (s12:Bool) (A12:Option Addr) (n12:Nat) (c12:Nat) (s14:Bool) (A14:Option Addr) (n14:Nat) (c14:Nat) (v:World),Hid (Below v4.heap.size v4 v)→Hid (PI v s11 A11 n11 c11 ((ax - px)*(bx - px)))→Hid (PI v s12 A12 n12 c12 ((ay - py)*(by' - py)))→Hid (PI v s14 A14 n14 c14 (((ax - px)*(bx - px))+((ay - py)*(by' - py))))→F 3 (Array.setIfInBounds (Array.setIfInBounds (Array.setIfInBounds (Array.setIfInBounds (Array.setIfInBounds (Array.setIfInBounds L0 5 true) 11 true) 12 true) 13 true) 14 true) 15 true) (Act.put (Act.put (Act.put (Act.put (Act.put (Act.put a0 (some 25) (.agg #[.bool s11,.slice A11 n11 c11])) (some 31) (.agg #[.bool s12,.slice A12 n12 c12])) (some 32) (.tuple #[.agg #[.bool s14,.slice A14 n14 c14],.int .i64 0])) (some 19) (.tuple #[.agg #[.bool s14,.slice A14 n14 c14],.int .i64 0])) (some 33) (.agg #[.bool s14,.slice A14 n14 c14])) (some 34) (.int .i64 0)) v:=by
   intro s11 A11 n11 c11 s12 A12 n12 c12 s14 A14 n14 c14 v aA aL aT cH
   subst hF ha0 hL0
   simp only [PT] at bK ⊢
   have hHeld:=aI.out _ aA.out
   refine ryy [16] ?_
   refine .cons rfl (fun K hK=>?_) .nil
   go_simp
   have bH:=hJ ((Below.refl v.heap.size v).alloc (Nat.le_refl _) (.cells #[.bool false,.slice none 0 0] 25))
   have cT:=hJ (BX.lit v 25 #[.bool false,.slice none 0 0])
   obtain ⟨v28,hV⟩:=nmz (World.alloc v (.cells #[.bool false,.slice none 0 0] 25))
   obtain ⟨aD,hg⟩:=nmz (v.heap.size)
   rw [hV] at bH cT ⊢
   rw [hg] at cT ⊢
   have iY:=hJ (show v4.heap.size≤aD by rw [←hg]; exact aA.out.size)
   clear hV hg
   have eV:=hJ (bt aA.out bH.out)
   have iZ:=hJ (PIo.new aL.out bH.out)
   have jA:=hJ (PIo.new aT.out bH.out)
   have jB:=hJ (PIo.new cH.out bH.out)
   clear hHeld
   refine hK.out _ _ (aI.out _ eV.out) (fun hHeld=>?_)
   clear hK K
   try simp only [PT]
   exact wpAnyH_cast (by kernel_rfl) (bK s11 A11 n11 c11 s12 A12 n12 c12 s14 A14 n14 c14 aD v28 eV iZ jA jB cT iY)
  have bS:∀ (s11:Bool) (A11:Option Addr) (n11:Nat) (c11:Nat) (s12:Bool) (A12:Option Addr) (n12:Nat) (c12:Nat) (aD:Nat) (v:World),Hid (Below v4.heap.size v4 v)→Hid (PI v s11 A11 n11 c11 ((ax - px)*(bx - px)))→Hid (PI v s12 A12 n12 c12 ((ay - py)*(by' - py)))→Hid (BX 25 v aD #[.bool false,.slice none 0 0])→Hid (v4.heap.size≤aD)→F 6 (Array.setIfInBounds (Array.setIfInBounds (Array.setIfInBounds L0 5 true) 11 true) 16 true) (Act.put (Act.put (Act.put a0 (some 25) (.agg #[.bool s11,.slice A11 n11 c11])) (some 31) (.agg #[.bool s12,.slice A12 n12 c12])) (some 9) (.pointer (some ⟨aD,0,none⟩))) v:=by
   intro s11 A11 n11 c11 s12 A12 n12 c12 aD v aA aL aT aR aW
   subst hF ha0 hL0
   simp only [PT] at bK ⊢
   have hHeld:=aI.out _ aA.out
   refine ryy [12] ?_
   refine .cons rfl (fun K hK=>?_) .nil
   go_simp
   go_at_call 79
   refine (padd_any ((ax - px)*(bx - px)) ((ay - py)*(by' - py)) s11 s12 A11 A12 n11 c11 n12 c12 v aL.out aT.out (Nat.le_trans (plim aL.out (nk_lim HM.out.1.1)) (by decide)) (Nat.le_trans (plim aT.out (nk_lim HM.out.1.2)) (by decide)) (nk_lim HM.out.1.1) (nk_lim HM.out.1.2)).mono ?_
   rw [bJ.out.1,bJ.out.2]
   rintro e v29 ⟨s14,A14,n14,c14,rfl,hr14,hb⟩
   have bT:=hJ hb
   have jC:=hJ hr14
   clear hb hr14
   go_wp2_with fail
   have eW:=hJ (bt aA.out bT.out)
   have jD:=hJ (PIo.new aL.out bT.out)
   have jE:=hJ (PIo.new aT.out bT.out)
   have jF:=hJ (BX.new aR.out bT.out)
   clear hHeld
   refine hK.out _ _ (aI.out _ eW.out) (fun hHeld=>?_)
   clear hK K
   refine tq 13 ?_
   refine tq 14 ?_
   refine tq 15 ?_
   try simp only [PT]
   exact wpAnyH_cast (by kernel_rfl) (bK s11 A11 n11 c11 s12 A12 n12 c12 s14 A14 n14 c14 aD v29 eW jD jE jC jF aW)
  have eX:∀ (s11:Bool) (A11:Option Addr) (n11:Nat) (c11:Nat) (s12:Bool) (A12:Option Addr) (n12:Nat) (c12:Nat) (v:World),Hid (Below v4.heap.size v4 v)→Hid (PI v s11 A11 n11 c11 ((ax - px)*(bx - px)))→Hid (PI v s12 A12 n12 c12 ((ay - py)*(by' - py)))→F 7 (Array.setIfInBounds (Array.setIfInBounds L0 5 true) 11 true) (Act.put (Act.put a0 (some 25) (.agg #[.bool s11,.slice A11 n11 c11])) (some 31) (.agg #[.bool s12,.slice A12 n12 c12])) v:=by
   intro s11 A11 n11 c11 s12 A12 n12 c12 v aA aL aT
   subst hF ha0 hL0
   simp only [PT] at eU bS ⊢
   have hHeld:=aI.out _ aA.out
   refine ryy [12,16] ?_
   refine .cons rfl (fun K hK=>?_) ?_
   go_simp
   go_at_call 79
   refine (padd_any ((ax - px)*(bx - px)) ((ay - py)*(by' - py)) s11 s12 A11 A12 n11 c11 n12 c12 v aL.out aT.out (Nat.le_trans (plim aL.out (nk_lim HM.out.1.1)) (by decide)) (Nat.le_trans (plim aT.out (nk_lim HM.out.1.2)) (by decide)) (nk_lim HM.out.1.1) (nk_lim HM.out.1.2)).mono ?_
   rw [bJ.out.1,bJ.out.2]
   rintro e v30 ⟨s14,A14,n14,c14,rfl,hr14,hb⟩
   have cU:=hJ hb
   have jG:=hJ hr14
   clear hb hr14
   go_wp2_with fail
   have eY:=hJ (bt aA.out cU.out)
   have jH:=hJ (PIo.new aL.out cU.out)
   have jI:=hJ (PIo.new aT.out cU.out)
   clear hHeld
   refine hK.out _ _ (aI.out _ eY.out) (fun hHeld=>?_)
   clear hK K
   refine tq 13 ?_
   refine tq 14 ?_
   refine tq 15 ?_
   try simp only [PT]
   exact wpAnyH_cast (by kernel_rfl) (eU s11 A11 n11 c11 s12 A12 n12 c12 s14 A14 n14 c14 v30 eY jH jI jG)
   refine .cons rfl (fun K hK=>?_) .nil
   go_simp
   have bU:=hJ ((Below.refl v.heap.size v).alloc (Nat.le_refl _) (.cells #[.bool false,.slice none 0 0] 25))
   have cV:=hJ (BX.lit v 25 #[.bool false,.slice none 0 0])
   obtain ⟨v31,hV⟩:=nmz (World.alloc v (.cells #[.bool false,.slice none 0 0] 25))
   obtain ⟨aD,hg⟩:=nmz (v.heap.size)
   rw [hV] at bU cV ⊢
   rw [hg] at cV ⊢
   have jJ:=hJ (show v4.heap.size≤aD by rw [←hg]; exact aA.out.size)
   clear hV hg
   have eZ:=hJ (bt aA.out bU.out)
   have jK:=hJ (PIo.new aL.out bU.out)
   have jL:=hJ (PIo.new aT.out bU.out)
   clear hHeld
   refine hK.out _ _ (aI.out _ eZ.out) (fun hHeld=>?_)
   clear hK K
   try simp only [PT]
   exact wpAnyH_cast (by kernel_rfl) (bS s11 A11 n11 c11 s12 A12 n12 c12 aD v31 eZ jK jL cV jJ)
  have bV:∀ (s11:Bool) (A11:Option Addr) (n11:Nat) (c11:Nat) (aD:Nat) (v:World),Hid (Below v4.heap.size v4 v)→Hid (PI v s11 A11 n11 c11 ((ax - px)*(bx - px)))→Hid (BX 25 v aD #[.bool false,.slice none 0 0])→Hid (v4.heap.size≤aD)→F 7 (Array.setIfInBounds (Array.setIfInBounds L0 5 true) 16 true) (Act.put (Act.put a0 (some 25) (.agg #[.bool s11,.slice A11 n11 c11])) (some 9) (.pointer (some ⟨aD,0,none⟩))) v:=by
   intro s11 A11 n11 c11 aD v aA aL aR aW
   subst hF ha0 hL0
   simp only [PT] at bS ⊢
   have hHeld:=aI.out _ aA.out
   refine ryy [11] ?_
   refine .cons rfl (fun K hK=>?_) .nil
   go_simp
   go_at_call 20
   refine (from_any ((ay - py)*(by' - py)) v (i6_wf (nk_i6 HM.out.1.2 (by decide)))).mono ?_
   rintro e v32 ⟨s12,A12,n12,c12,rfl,hr12,hb⟩
   have cW:=hJ hb
   have jM:=hJ hr12
   clear hb hr12
   go_wp2_with fail
   have fA:=hJ (bt aA.out cW.out)
   have jN:=hJ (PIo.new aL.out cW.out)
   have jO:=hJ (BX.new aR.out cW.out)
   clear hHeld
   refine hK.out _ _ (aI.out _ fA.out) (fun hHeld=>?_)
   clear hK K
   try simp only [PT]
   exact wpAnyH_cast (by kernel_rfl) (bS s11 A11 n11 c11 s12 A12 n12 c12 aD v32 fA jN jM jO aW)
  have fB:∀ (s11:Bool) (A11:Option Addr) (n11:Nat) (c11:Nat) (v:World),Hid (Below v4.heap.size v4 v)→Hid (PI v s11 A11 n11 c11 ((ax - px)*(bx - px)))→F 8 (Array.setIfInBounds L0 5 true) (Act.put a0 (some 25) (.agg #[.bool s11,.slice A11 n11 c11])) v:=by
   intro s11 A11 n11 c11 v aA aL
   subst hF ha0 hL0
   simp only [PT] at eX bV ⊢
   have hHeld:=aI.out _ aA.out
   refine ryy [11,16] ?_
   refine .cons rfl (fun K hK=>?_) ?_
   go_simp
   go_at_call 20
   refine (from_any ((ay - py)*(by' - py)) v (i6_wf (nk_i6 HM.out.1.2 (by decide)))).mono ?_
   rintro e v33 ⟨s12,A12,n12,c12,rfl,hr12,hb⟩
   have fC:=hJ hb
   have jP:=hJ hr12
   clear hb hr12
   go_wp2_with fail
   have fD:=hJ (bt aA.out fC.out)
   have jQ:=hJ (PIo.new aL.out fC.out)
   clear hHeld
   refine hK.out _ _ (aI.out _ fD.out) (fun hHeld=>?_)
   clear hK K
   try simp only [PT]
   exact wpAnyH_cast (by kernel_rfl) (eX s11 A11 n11 c11 s12 A12 n12 c12 v33 fD jQ jP)
   refine .cons rfl (fun K hK=>?_) .nil
   go_simp
   have cX:=hJ ((Below.refl v.heap.size v).alloc (Nat.le_refl _) (.cells #[.bool false,.slice none 0 0] 25))
   have cY:=hJ (BX.lit v 25 #[.bool false,.slice none 0 0])
   obtain ⟨v34,hV⟩:=nmz (World.alloc v (.cells #[.bool false,.slice none 0 0] 25))
   obtain ⟨aD,hg⟩:=nmz (v.heap.size)
   rw [hV] at cX cY ⊢
   rw [hg] at cY ⊢
   have jR:=hJ (show v4.heap.size≤aD by rw [←hg]; exact aA.out.size)
   clear hV hg
   have fE:=hJ (bt aA.out cX.out)
   have jS:=hJ (PIo.new aL.out cX.out)
   clear hHeld
   refine hK.out _ _ (aI.out _ fE.out) (fun hHeld=>?_)
   clear hK K
   try simp only [PT]
   exact wpAnyH_cast (by kernel_rfl) (bV s11 A11 n11 c11 aD v34 fE jS cY jR)
  have fF:∀ (aD:Nat) (v:World),Hid (Below v4.heap.size v4 v)→Hid (BX 25 v aD #[.bool false,.slice none 0 0])→Hid (v4.heap.size≤aD)→F 8 (Array.setIfInBounds L0 16 true) (Act.put a0 (some 9) (.pointer (some ⟨aD,0,none⟩))) v:=by
   intro aD v aA aR aW
   subst hF ha0 hL0
   simp only [PT] at bV ⊢
   have hHeld:=aI.out _ aA.out
   refine ryy [5] ?_
   refine .cons rfl (fun K hK=>?_) .nil
   go_simp
   go_at_call 20
   refine (from_any ((ax - px)*(bx - px)) v (i6_wf (nk_i6 HM.out.1.1 (by decide)))).mono ?_
   rintro e v35 ⟨s11,A11,n11,c11,rfl,hr11,hb⟩
   have fG:=hJ hb
   have jT:=hJ hr11
   clear hb hr11
   go_wp2_with fail
   have fH:=hJ (bt aA.out fG.out)
   have jU:=hJ (BX.new aR.out fG.out)
   clear hHeld
   refine hK.out _ _ (aI.out _ fH.out) (fun hHeld=>?_)
   clear hK K
   try simp only [PT]
   exact wpAnyH_cast (by kernel_rfl) (bV s11 A11 n11 c11 aD v35 fH jT jU aW)
  subst hF ha0 hL0
  simp only [PT] at fB fF
  refine ryy [5,16] ?_
  refine .cons rfl (fun K hK=>?_) ?_
  go_simp
  go_at_call 20
  refine (from_any ((ax - px)*(bx - px)) v7 (i6_wf (nk_i6 HM.out.1.1 (by decide)))).mono ?_
  rintro e v36 ⟨s11,A11,n11,c11,rfl,hr11,hb⟩
  have jV:=hJ hb
  have jW:=hJ hr11
  clear hb hr11
  go_wp2_with fail
  have fI:=hJ (bt cG.out jV.out)
  clear hHeld
  refine hK.out _ _ (aI.out _ fI.out) (fun hHeld=>?_)
  clear hK K
  try simp only [PT]
  exact wpAnyH_cast (by kernel_rfl) (fB s11 A11 n11 c11 v36 fI jW)
  refine .cons rfl (fun K hK=>?_) .nil
  go_simp
  have fJ:=hJ ((Below.refl v7.heap.size v7).alloc (Nat.le_refl _) (.cells #[.bool false,.slice none 0 0] 25))
  have cZ:=hJ (BX.lit v7 25 #[.bool false,.slice none 0 0])
  obtain ⟨v37,hV⟩:=nmz (World.alloc v7 (.cells #[.bool false,.slice none 0 0] 25))
  obtain ⟨aD,hg⟩:=nmz (v7.heap.size)
  rw [hV] at fJ cZ ⊢
  rw [hg] at cZ ⊢
  have jX:=hJ (show v4.heap.size≤aD by rw [←hg]; exact cG.out.size)
  clear hV hg
  have fK:=hJ (bt cG.out fJ.out)
  clear hHeld
  refine hK.out _ _ (aI.out _ fK.out) (fun hHeld=>?_)
  clear hK K
  try simp only [PT]
  exact wpAnyH_cast (by kernel_rfl) (fF aD v37 fK cZ jX)
 have bW:∀ (aB:Nat) (v:World),Hid (Below x1.heap.size x1 v)→Hid (BX 71 v aB #[.int .i64 0,.int .i64 0])→Hid (x1.heap.size≤aB)→F 3 (Array.setIfInBounds (Array.setIfInBounds (Array.setIfInBounds L0 2 true) 5 true) 6 true) (Act.put (Act.put (Act.put a0 (some 15) (.agg #[.int .i64 (ax - px),.int .i64 (ay - py)])) (some 18) (.agg #[.int .i64 (bx - px),.int .i64 (by' - py)])) (some 7) (.pointer (some ⟨aB,0,none⟩))) v:=by
  intro aB v aA aH aN
  subst hF ha0 hL0
  simp only [PT] at aZ ⊢
  have hHeld:=aG.out _ aA.out
  refine ryy [7] ?_
  refine .cons rfl (fun K hK=>?_) .nil
  go_simp
  have dA:=hJ ((Below.refl v.heap.size v).alloc (Nat.le_refl _) (.cells #[.int .i64 0,.int .i64 0] 71))
  have dB:=hJ (BX.lit v 71 #[.int .i64 0,.int .i64 0])
  obtain ⟨v38,hV⟩:=nmz (World.alloc v (.cells #[.int .i64 0,.int .i64 0] 71))
  obtain ⟨aC,hg⟩:=nmz (v.heap.size)
  rw [hV] at dA dB ⊢
  rw [hg] at dB ⊢
  have jY:=hJ (show x1.heap.size≤aC by rw [←hg]; exact aA.out.size)
  have jZ:=hJ (show aB≠aC by have:=aH.out.lt; rw [hg] at this; omega)
  clear hV hg
  have fL:=hJ (bt aA.out dA.out)
  have kA:=hJ (BX.new aH.out dA.out)
  clear hHeld
  refine hK.out _ _ (aG.out _ fL.out) (fun hHeld=>?_)
  clear hK K
  try simp only [PT]
  exact wpAnyH_cast (by kernel_rfl) (aZ aB aC v38 fL kA aN dB jY (hJ jZ.out))
 have bX:∀ (aC:Nat) (v:World),Hid (Below x1.heap.size x1 v)→Hid (BX 71 v aC #[.int .i64 0,.int .i64 0])→Hid (x1.heap.size≤aC)→F 3 (Array.setIfInBounds (Array.setIfInBounds (Array.setIfInBounds L0 2 true) 5 true) 7 true) (Act.put (Act.put (Act.put a0 (some 15) (.agg #[.int .i64 (ax - px),.int .i64 (ay - py)])) (some 18) (.agg #[.int .i64 (bx - px),.int .i64 (by' - py)])) (some 8) (.pointer (some ⟨aC,0,none⟩))) v:=by
  intro aC v aA aK aO
  subst hF ha0 hL0
  simp only [PT] at aZ ⊢
  have hHeld:=aG.out _ aA.out
  refine ryy [6] ?_
  refine .cons rfl (fun K hK=>?_) .nil
  go_simp
  have dD:=hJ ((Below.refl v.heap.size v).alloc (Nat.le_refl _) (.cells #[.int .i64 0,.int .i64 0] 71))
  have dE:=hJ (BX.lit v 71 #[.int .i64 0,.int .i64 0])
  obtain ⟨v39,hV⟩:=nmz (World.alloc v (.cells #[.int .i64 0,.int .i64 0] 71))
  obtain ⟨aB,hg⟩:=nmz (v.heap.size)
  rw [hV] at dD dE ⊢
  rw [hg] at dE ⊢
  have kB:=hJ (show x1.heap.size≤aB by rw [←hg]; exact aA.out.size)
  have kC:=hJ (show aC≠aB by have:=aK.out.lt; rw [hg] at this; omega)
  clear hV hg
  have fM:=hJ (bt aA.out dD.out)
  have kD:=hJ (BX.new aK.out dD.out)
  clear hHeld
  refine hK.out _ _ (aG.out _ fM.out) (fun hHeld=>?_)
  clear hK K
  try simp only [PT]
  exact wpAnyH_cast (by kernel_rfl) (aZ aB aC v39 fM dE kB kD aO (hJ kC.out.symm))
 have bC:∀ (aB:Nat) (aC:Nat) (v:World),Hid (Below x1.heap.size x1 v)→Hid (BX 71 v aB #[.int .i64 0,.int .i64 0])→Hid (x1.heap.size≤aB)→Hid (BX 71 v aC #[.int .i64 0,.int .i64 0])→Hid (x1.heap.size≤aC)→Hid (aB≠aC)→F 3 (Array.setIfInBounds (Array.setIfInBounds (Array.setIfInBounds L0 2 true) 6 true) 7 true) (Act.put (Act.put (Act.put a0 (some 15) (.agg #[.int .i64 (ax - px),.int .i64 (ay - py)])) (some 7) (.pointer (some ⟨aB,0,none⟩))) (some 8) (.pointer (some ⟨aC,0,none⟩))) v:=by
  intro aB aC v aA aH aN aK aO bA
  subst hF ha0 hL0
  simp only [PT] at aZ ⊢
  have hHeld:=aG.out _ aA.out
  refine ryy [5] ?_
  refine .cons rfl (fun K hK=>?_) .nil
  go_simp
  go_at_call 116
  refine (away_any px py bx by' v (nk_i HD.out.2.1) (nk_i HD.out.2.2)).mono ?_
  rintro e v40 ⟨rfl,hb⟩
  have dF:=hJ hb
  clear hb
  go_wp2_with fail
  have fN:=hJ (bt aA.out dF.out)
  have kE:=hJ (BX.new aH.out dF.out)
  have kF:=hJ (BX.new aK.out dF.out)
  clear hHeld
  refine hK.out _ _ (aG.out _ fN.out) (fun hHeld=>?_)
  clear hK K
  try simp only [PT]
  exact wpAnyH_cast (by kernel_rfl) (aZ aB aC v40 fN kE aN kF aO (hJ bA.out))
 have fO:∀ (v:World),Hid (Below x1.heap.size x1 v)→F 4 (Array.setIfInBounds (Array.setIfInBounds L0 2 true) 5 true) (Act.put (Act.put a0 (some 15) (.agg #[.int .i64 (ax - px),.int .i64 (ay - py)])) (some 18) (.agg #[.int .i64 (bx - px),.int .i64 (by' - py)])) v:=by
  intro  v aA
  subst hF ha0 hL0
  simp only [PT] at bW bX ⊢
  have hHeld:=aG.out _ aA.out
  refine ryy [6,7] ?_
  refine .cons rfl (fun K hK=>?_) ?_
  go_simp
  have fP:=hJ ((Below.refl v.heap.size v).alloc (Nat.le_refl _) (.cells #[.int .i64 0,.int .i64 0] 71))
  have dG:=hJ (BX.lit v 71 #[.int .i64 0,.int .i64 0])
  obtain ⟨v41,hV⟩:=nmz (World.alloc v (.cells #[.int .i64 0,.int .i64 0] 71))
  obtain ⟨aB,hg⟩:=nmz (v.heap.size)
  rw [hV] at fP dG ⊢
  rw [hg] at dG ⊢
  have kG:=hJ (show x1.heap.size≤aB by rw [←hg]; exact aA.out.size)
  clear hV hg
  have fQ:=hJ (bt aA.out fP.out)
  clear hHeld
  refine hK.out _ _ (aG.out _ fQ.out) (fun hHeld=>?_)
  clear hK K
  try simp only [PT]
  exact wpAnyH_cast (by kernel_rfl) (bW aB v41 fQ dG kG)
  refine .cons rfl (fun K hK=>?_) .nil
  go_simp
  have fR:=hJ ((Below.refl v.heap.size v).alloc (Nat.le_refl _) (.cells #[.int .i64 0,.int .i64 0] 71))
  have dH:=hJ (BX.lit v 71 #[.int .i64 0,.int .i64 0])
  obtain ⟨v42,hV⟩:=nmz (World.alloc v (.cells #[.int .i64 0,.int .i64 0] 71))
  obtain ⟨aC,hg⟩:=nmz (v.heap.size)
  rw [hV] at fR dH ⊢
  rw [hg] at dH ⊢
  have kH:=hJ (show x1.heap.size≤aC by rw [←hg]; exact aA.out.size)
  clear hV hg
  have fS:=hJ (bt aA.out fR.out)
  clear hHeld
  refine hK.out _ _ (aG.out _ fS.out) (fun hHeld=>?_)
  clear hK K
  try simp only [PT]
  exact wpAnyH_cast (by kernel_rfl) (bX aC v42 fS dH kH)
 have bY:∀ (aB:Nat) (v:World),Hid (Below x1.heap.size x1 v)→Hid (BX 71 v aB #[.int .i64 0,.int .i64 0])→Hid (x1.heap.size≤aB)→F 4 (Array.setIfInBounds (Array.setIfInBounds L0 2 true) 6 true) (Act.put (Act.put a0 (some 15) (.agg #[.int .i64 (ax - px),.int .i64 (ay - py)])) (some 7) (.pointer (some ⟨aB,0,none⟩))) v:=by
  intro aB v aA aH aN
  subst hF ha0 hL0
  simp only [PT] at bW bC ⊢
  have hHeld:=aG.out _ aA.out
  refine ryy [5,7] ?_
  refine .cons rfl (fun K hK=>?_) ?_
  go_simp
  go_at_call 116
  refine (away_any px py bx by' v (nk_i HD.out.2.1) (nk_i HD.out.2.2)).mono ?_
  rintro e v43 ⟨rfl,hb⟩
  have fT:=hJ hb
  clear hb
  go_wp2_with fail
  have fU:=hJ (bt aA.out fT.out)
  have kI:=hJ (BX.new aH.out fT.out)
  clear hHeld
  refine hK.out _ _ (aG.out _ fU.out) (fun hHeld=>?_)
  clear hK K
  try simp only [PT]
  exact wpAnyH_cast (by kernel_rfl) (bW aB v43 fU kI aN)
  refine .cons rfl (fun K hK=>?_) .nil
  go_simp
  have dI:=hJ ((Below.refl v.heap.size v).alloc (Nat.le_refl _) (.cells #[.int .i64 0,.int .i64 0] 71))
  have dJ:=hJ (BX.lit v 71 #[.int .i64 0,.int .i64 0])
  obtain ⟨v44,hV⟩:=nmz (World.alloc v (.cells #[.int .i64 0,.int .i64 0] 71))
  obtain ⟨aC,hg⟩:=nmz (v.heap.size)
  rw [hV] at dI dJ ⊢
  rw [hg] at dJ ⊢
  have kJ:=hJ (show x1.heap.size≤aC by rw [←hg]; exact aA.out.size)
  have kK:=hJ (show aB≠aC by have:=aH.out.lt; rw [hg] at this; omega)
  clear hV hg
  have fV:=hJ (bt aA.out dI.out)
  have kL:=hJ (BX.new aH.out dI.out)
  clear hHeld
  refine hK.out _ _ (aG.out _ fV.out) (fun hHeld=>?_)
  clear hK K
  try simp only [PT]
  exact wpAnyH_cast (by kernel_rfl) (bC aB aC v44 fV kL aN dJ kJ (hJ kK.out))
 have bZ:∀ (aC:Nat) (v:World),Hid (Below x1.heap.size x1 v)→Hid (BX 71 v aC #[.int .i64 0,.int .i64 0])→Hid (x1.heap.size≤aC)→F 4 (Array.setIfInBounds (Array.setIfInBounds L0 2 true) 7 true) (Act.put (Act.put a0 (some 15) (.agg #[.int .i64 (ax - px),.int .i64 (ay - py)])) (some 8) (.pointer (some ⟨aC,0,none⟩))) v:=by
  intro aC v aA aK aO
  subst hF ha0 hL0
  simp only [PT] at bX bC ⊢
  have hHeld:=aG.out _ aA.out
  refine ryy [5,6] ?_
  refine .cons rfl (fun K hK=>?_) ?_
  go_simp
  go_at_call 116
  refine (away_any px py bx by' v (nk_i HD.out.2.1) (nk_i HD.out.2.2)).mono ?_
  rintro e v45 ⟨rfl,hb⟩
  have fW:=hJ hb
  clear hb
  go_wp2_with fail
  have fX:=hJ (bt aA.out fW.out)
  have kM:=hJ (BX.new aK.out fW.out)
  clear hHeld
  refine hK.out _ _ (aG.out _ fX.out) (fun hHeld=>?_)
  clear hK K
  try simp only [PT]
  exact wpAnyH_cast (by kernel_rfl) (bX aC v45 fX kM aO)
  refine .cons rfl (fun K hK=>?_) .nil
  go_simp
  have dK:=hJ ((Below.refl v.heap.size v).alloc (Nat.le_refl _) (.cells #[.int .i64 0,.int .i64 0] 71))
  have dL:=hJ (BX.lit v 71 #[.int .i64 0,.int .i64 0])
  obtain ⟨v46,hV⟩:=nmz (World.alloc v (.cells #[.int .i64 0,.int .i64 0] 71))
  obtain ⟨aB,hg⟩:=nmz (v.heap.size)
  rw [hV] at dK dL ⊢
  rw [hg] at dL ⊢
  have kN:=hJ (show x1.heap.size≤aB by rw [←hg]; exact aA.out.size)
  have kO:=hJ (show aC≠aB by have:=aK.out.lt; rw [hg] at this; omega)
  clear hV hg
  have fY:=hJ (bt aA.out dK.out)
  have kP:=hJ (BX.new aK.out dK.out)
  clear hHeld
  refine hK.out _ _ (aG.out _ fY.out) (fun hHeld=>?_)
  clear hK K
  try simp only [PT]
  exact wpAnyH_cast (by kernel_rfl) (bC aB aC v46 fY dL kN kP aO (hJ kO.out.symm))
 have cA:∀ (aB:Nat) (aC:Nat) (v:World),Hid (Below x1.heap.size x1 v)→Hid (BX 71 v aB #[.int .i64 0,.int .i64 0])→Hid (x1.heap.size≤aB)→Hid (BX 71 v aC #[.int .i64 0,.int .i64 0])→Hid (x1.heap.size≤aC)→Hid (aB≠aC)→F 4 (Array.setIfInBounds (Array.setIfInBounds L0 6 true) 7 true) (Act.put (Act.put a0 (some 7) (.pointer (some ⟨aB,0,none⟩))) (some 8) (.pointer (some ⟨aC,0,none⟩))) v:=by
  intro aB aC v aA aH aN aK aO bA
  subst hF ha0 hL0
  simp only [PT] at bC ⊢
  have hHeld:=aG.out _ aA.out
  refine ryy [2] ?_
  refine .cons rfl (fun K hK=>?_) .nil
  go_simp
  go_at_call 116
  refine (away_any px py ax ay v (nk_i HD.out.1.1) (nk_i HD.out.1.2)).mono ?_
  rintro e v47 ⟨rfl,hb⟩
  have dM:=hJ hb
  clear hb
  go_wp2_with fail
  have fZ:=hJ (bt aA.out dM.out)
  have kQ:=hJ (BX.new aH.out dM.out)
  have kR:=hJ (BX.new aK.out dM.out)
  clear hHeld
  refine hK.out _ _ (aG.out _ fZ.out) (fun hHeld=>?_)
  clear hK K
  try simp only [PT]
  exact wpAnyH_cast (by kernel_rfl) (bC aB aC v47 fZ kQ aN kR aO (hJ bA.out))
 have gA:∀ (v:World),Hid (Below x1.heap.size x1 v)→F 5 (Array.setIfInBounds L0 2 true) (Act.put a0 (some 15) (.agg #[.int .i64 (ax - px),.int .i64 (ay - py)])) v:=by
  intro  v aA
  subst hF ha0 hL0
  simp only [PT] at fO bY bZ ⊢
  have hHeld:=aG.out _ aA.out
  refine ryy [5,6,7] ?_
  refine .cons rfl (fun K hK=>?_) ?_
  go_simp
  go_at_call 116
  refine (away_any px py bx by' v (nk_i HD.out.2.1) (nk_i HD.out.2.2)).mono ?_
  rintro e v48 ⟨rfl,hb⟩
  have kS:=hJ hb
  clear hb
  go_wp2_with fail
  have gB:=hJ (bt aA.out kS.out)
  clear hHeld
  refine hK.out _ _ (aG.out _ gB.out) (fun hHeld=>?_)
  clear hK K
  try simp only [PT]
  exact wpAnyH_cast (by kernel_rfl) (fO  v48 gB)
  refine .cons rfl (fun K hK=>?_) ?_
  go_simp
  have gC:=hJ ((Below.refl v.heap.size v).alloc (Nat.le_refl _) (.cells #[.int .i64 0,.int .i64 0] 71))
  have dN:=hJ (BX.lit v 71 #[.int .i64 0,.int .i64 0])
  obtain ⟨v49,hV⟩:=nmz (World.alloc v (.cells #[.int .i64 0,.int .i64 0] 71))
  obtain ⟨aB,hg⟩:=nmz (v.heap.size)
  rw [hV] at gC dN ⊢
  rw [hg] at dN ⊢
  have kT:=hJ (show x1.heap.size≤aB by rw [←hg]; exact aA.out.size)
  clear hV hg
  have gD:=hJ (bt aA.out gC.out)
  clear hHeld
  refine hK.out _ _ (aG.out _ gD.out) (fun hHeld=>?_)
  clear hK K
  try simp only [PT]
  exact wpAnyH_cast (by kernel_rfl) (bY aB v49 gD dN kT)
  refine .cons rfl (fun K hK=>?_) .nil
  go_simp
  have gE:=hJ ((Below.refl v.heap.size v).alloc (Nat.le_refl _) (.cells #[.int .i64 0,.int .i64 0] 71))
  have dO:=hJ (BX.lit v 71 #[.int .i64 0,.int .i64 0])
  obtain ⟨v50,hV⟩:=nmz (World.alloc v (.cells #[.int .i64 0,.int .i64 0] 71))
  obtain ⟨aC,hg⟩:=nmz (v.heap.size)
  rw [hV] at gE dO ⊢
  rw [hg] at dO ⊢
  have kU:=hJ (show x1.heap.size≤aC by rw [←hg]; exact aA.out.size)
  clear hV hg
  have gF:=hJ (bt aA.out gE.out)
  clear hHeld
  refine hK.out _ _ (aG.out _ gF.out) (fun hHeld=>?_)
  clear hK K
  try simp only [PT]
  exact wpAnyH_cast (by kernel_rfl) (bZ aC v50 gF dO kU)
 have gG:∀ (aB:Nat) (v:World),Hid (Below x1.heap.size x1 v)→Hid (BX 71 v aB #[.int .i64 0,.int .i64 0])→Hid (x1.heap.size≤aB)→F 5 (Array.setIfInBounds L0 6 true) (Act.put a0 (some 7) (.pointer (some ⟨aB,0,none⟩))) v:=by
  intro aB v aA aH aN
  subst hF ha0 hL0
  simp only [PT] at bY cA ⊢
  have hHeld:=aG.out _ aA.out
  refine ryy [2,7] ?_
  refine .cons rfl (fun K hK=>?_) ?_
  go_simp
  go_at_call 116
  refine (away_any px py ax ay v (nk_i HD.out.1.1) (nk_i HD.out.1.2)).mono ?_
  rintro e v51 ⟨rfl,hb⟩
  have gH:=hJ hb
  clear hb
  go_wp2_with fail
  have gI:=hJ (bt aA.out gH.out)
  have kV:=hJ (BX.new aH.out gH.out)
  clear hHeld
  refine hK.out _ _ (aG.out _ gI.out) (fun hHeld=>?_)
  clear hK K
  try simp only [PT]
  exact wpAnyH_cast (by kernel_rfl) (bY aB v51 gI kV aN)
  refine .cons rfl (fun K hK=>?_) .nil
  go_simp
  have dP:=hJ ((Below.refl v.heap.size v).alloc (Nat.le_refl _) (.cells #[.int .i64 0,.int .i64 0] 71))
  have dQ:=hJ (BX.lit v 71 #[.int .i64 0,.int .i64 0])
  obtain ⟨v52,hV⟩:=nmz (World.alloc v (.cells #[.int .i64 0,.int .i64 0] 71))
  obtain ⟨aC,hg⟩:=nmz (v.heap.size)
  rw [hV] at dP dQ ⊢
  rw [hg] at dQ ⊢
  have kW:=hJ (show x1.heap.size≤aC by rw [←hg]; exact aA.out.size)
  have kX:=hJ (show aB≠aC by have:=aH.out.lt; rw [hg] at this; omega)
  clear hV hg
  have gJ:=hJ (bt aA.out dP.out)
  have kY:=hJ (BX.new aH.out dP.out)
  clear hHeld
  refine hK.out _ _ (aG.out _ gJ.out) (fun hHeld=>?_)
  clear hK K
  try simp only [PT]
  exact wpAnyH_cast (by kernel_rfl) (cA aB aC v52 gJ kY aN dQ kW (hJ kX.out))
 have gK:∀ (aC:Nat) (v:World),Hid (Below x1.heap.size x1 v)→Hid (BX 71 v aC #[.int .i64 0,.int .i64 0])→Hid (x1.heap.size≤aC)→F 5 (Array.setIfInBounds L0 7 true) (Act.put a0 (some 8) (.pointer (some ⟨aC,0,none⟩))) v:=by
  intro aC v aA aK aO
  subst hF ha0 hL0
  simp only [PT] at bZ cA ⊢
  have hHeld:=aG.out _ aA.out
  refine ryy [2,6] ?_
  refine .cons rfl (fun K hK=>?_) ?_
  go_simp
  go_at_call 116
  refine (away_any px py ax ay v (nk_i HD.out.1.1) (nk_i HD.out.1.2)).mono ?_
  rintro e v53 ⟨rfl,hb⟩
  have gL:=hJ hb
  clear hb
  go_wp2_with fail
  have gM:=hJ (bt aA.out gL.out)
  have kZ:=hJ (BX.new aK.out gL.out)
  clear hHeld
  refine hK.out _ _ (aG.out _ gM.out) (fun hHeld=>?_)
  clear hK K
  try simp only [PT]
  exact wpAnyH_cast (by kernel_rfl) (bZ aC v53 gM kZ aO)
  refine .cons rfl (fun K hK=>?_) .nil
  go_simp
  have dR:=hJ ((Below.refl v.heap.size v).alloc (Nat.le_refl _) (.cells #[.int .i64 0,.int .i64 0] 71))
  have dS:=hJ (BX.lit v 71 #[.int .i64 0,.int .i64 0])
  obtain ⟨v54,hV⟩:=nmz (World.alloc v (.cells #[.int .i64 0,.int .i64 0] 71))
  obtain ⟨aB,hg⟩:=nmz (v.heap.size)
  rw [hV] at dR dS ⊢
  rw [hg] at dS ⊢
  have lA:=hJ (show x1.heap.size≤aB by rw [←hg]; exact aA.out.size)
  have lB:=hJ (show aC≠aB by have:=aK.out.lt; rw [hg] at this; omega)
  clear hV hg
  have gN:=hJ (bt aA.out dR.out)
  have lC:=hJ (BX.new aK.out dR.out)
  clear hHeld
  refine hK.out _ _ (aG.out _ gN.out) (fun hHeld=>?_)
  clear hK K
  try simp only [PT]
  exact wpAnyH_cast (by kernel_rfl) (cA aB aC v54 gN dS lA lC aO (hJ lB.out.symm))
 subst hF ha0 hL0
 simp only [PT] at gA gG gK
 refine ryy [2,6,7] ?_
 refine .cons rfl (fun K hK=>?_) ?_
 go_simp
 go_at_call 116
 refine (away_any px py ax ay v2 (nk_i HD.out.1.1) (nk_i HD.out.1.2)).mono ?_
 rintro e v55 ⟨rfl,hb⟩
 have lD:=hJ hb
 clear hb
 go_wp2_with fail
 have gO:=hJ (bt bD.out lD.out)
 clear hHeld
 refine hK.out _ _ (aG.out _ gO.out) (fun hHeld=>?_)
 clear hK K
 try simp only [PT]
 exact wpAnyH_cast (by kernel_rfl) (gA  v55 gO)
 refine .cons rfl (fun K hK=>?_) ?_
 go_simp
 have gP:=hJ ((Below.refl v2.heap.size v2).alloc (Nat.le_refl _) (.cells #[.int .i64 0,.int .i64 0] 71))
 have dT:=hJ (BX.lit v2 71 #[.int .i64 0,.int .i64 0])
 obtain ⟨v56,hV⟩:=nmz (World.alloc v2 (.cells #[.int .i64 0,.int .i64 0] 71))
 obtain ⟨aB,hg⟩:=nmz (v2.heap.size)
 rw [hV] at gP dT ⊢
 rw [hg] at dT ⊢
 have lE:=hJ (show x1.heap.size≤aB by rw [←hg]; exact bD.out.size)
 clear hV hg
 have gQ:=hJ (bt bD.out gP.out)
 clear hHeld
 refine hK.out _ _ (aG.out _ gQ.out) (fun hHeld=>?_)
 clear hK K
 try simp only [PT]
 exact wpAnyH_cast (by kernel_rfl) (gG aB v56 gQ dT lE)
 refine .cons rfl (fun K hK=>?_) .nil
 go_simp
 have gR:=hJ ((Below.refl v2.heap.size v2).alloc (Nat.le_refl _) (.cells #[.int .i64 0,.int .i64 0] 71))
 have dU:=hJ (BX.lit v2 71 #[.int .i64 0,.int .i64 0])
 obtain ⟨v57,hV⟩:=nmz (World.alloc v2 (.cells #[.int .i64 0,.int .i64 0] 71))
 obtain ⟨aC,hg⟩:=nmz (v2.heap.size)
 rw [hV] at gR dU ⊢
 rw [hg] at dU ⊢
 have lF:=hJ (show x1.heap.size≤aC by rw [←hg]; exact bD.out.size)
 clear hV hg
 have gS:=hJ (bt bD.out gR.out)
 clear hHeld
 refine hK.out _ _ (aG.out _ gS.out) (fun hHeld=>?_)
 clear hK K
 try simp only [PT]
 exact wpAnyH_cast (by kernel_rfl) (gK aC v57 gS dU lF)
end Go.Proofs.YtbgfmegepekapaaGreat
