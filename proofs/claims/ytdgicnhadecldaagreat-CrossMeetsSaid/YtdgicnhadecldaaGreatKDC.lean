/- Contracts for the reference's Meet: Before, Normal, Compare. Conditions: as each statement has them. -/
import Derived.Test.YtdgicnhadecldaaGreatKB2
import Derived.Test.YtdgicnhadecldaaGreatKB5
import Derived.Test.YtdgicnhadecldaaGreatKCE
import Derived.Test.YtdgicnhadecldaaGreatKCF
import Derived.Test.YtdgicnhadecldaaGreatKCT
import Derived.Test.YtdgicnhadecldaaGreatKEA
import Derived.Test.YtdgicnhadecldaaGreatKFD
import Derived.Test.YtdgicnhadecldaaGreatKPF
import Derived.Test.YtdgicnhadecldaaGreatKYA
namespace Go.Proofs.YtdgicnhadecldaaGreat
open Go.RowKit
attribute [local go_sem ↓] Go.wp_at_zero Go.wp_at_succ
set_option linter.unusedVariables false
set_option linter.unusedSimpArgs false
/-- Whether a point of the grid comes before another one. -/
def beV (a b c d:Int):Bool:=decide (a < c) || (decide (a=c) && decide (b < d))
theorem nor_be (ax ay bx by':Int):(0 < pcV ax 1 ay 1 bx 1 by' 1)↔beV bx by' ax ay=true:=by
 have h:=(pc_lt (a:=(ax,1,ay,1)) (b:=(bx,1,by',1)) ⟨rfl,rfl⟩ ⟨rfl,rfl⟩).2
 have e:pcP (ax,1,ay,1) (bx,1,by',1)=pcV ax 1 ay 1 bx 1 by' 1:=rfl
 rw [e] at h
 rw [h]
 unfold BefP beV
 simp only [Bool.or_eq_true,Bool.and_eq_true,decide_eq_true_iff]
/-- The numbers that the reference's Compare bears here. -/
def Rb (X Y D:Int):Prop:=(0 < D∧D≤100000)∧(-100000000≤X∧X≤100000000) ∧ -100000000≤Y∧Y≤100000000
theorem rb_i6 {X Y D X' Y' D':Int} (h:Rb X Y D) (g:Rb X' Y' D'):(I6 (X*D')∧I6 (X'*D)∧I6 (X*D' - X'*D))∧I6 (Y*D')∧I6 (Y'*D)∧I6 (Y*D' - Y'*D):=by
 obtain ⟨h1,h2,h3⟩:=h
 obtain ⟨g1,g2,g3⟩:=g
 have m1:=mul_in7 h2 (show -100000≤D'∧D'≤100000 by omega)
 have m2:=mul_in7 g2 (show -100000≤D∧D≤100000 by omega)
 have m3:=mul_in7 h3 (show -100000≤D'∧D'≤100000 by omega)
 have m4:=mul_in7 g3 (show -100000≤D∧D≤100000 by omega)
 unfold I6
 omega
theorem cm_subz (p q:Int):cmpI (p - q) 0=cmpI p q:=by unfold cmpI; split <;> split <;> (try split) <;> (try split) <;> omega
set_option maxRecDepth 100000 in
set_option maxHeartbeats 1600000 in
theorem rbefore_any (a b c d:Int) (w:World) :
  Calls Tryz.prog 44 #[.agg #[.int .i64 a,.int .i64 b],.agg #[.int .i64 c,.int .i64 d]] w fun e w'=>e=.returned ((.bool (beV a b c d)))∧Below w.heap.size w w':=by
 obtain ⟨x1,aC⟩:=nmz ((w.alloc (.cells #[.int .i64 a,.int .i64 b] 23)).alloc (.cells #[.int .i64 c,.int .i64 d] 23))
 have aD:=hJ (show Below w.heap.size w x1 by rw [←aC]; exact (((Below.refl _ _).alloc (Nat.le_refl _) _).alloc (by simp only [World.size_alloc]; omega) _))
 have aA:=hJ (show BX 23 x1 w.heap.size #[.int .i64 a,.int .i64 b] by rw [←aC]; exact ((BX.at rfl).alloc _))
 have aB:=hJ (show BX 23 x1 (w.heap.size+1) #[.int .i64 c,.int .i64 d] by rw [←aC]; exact (BX.at (by simp only [World.size_alloc])))
 rcases (show a < c∨(¬ a < c∧¬ a=c)∨(a=c∧b < d)∨(a=c∧¬ b < d) by omega) with h1 | ⟨h1,h2⟩ | ⟨h1,h2⟩ | ⟨h1,h2⟩
 ·have hd1:decide (a < c)=true:=decide_eq_true h1
  have HV:=hJ (show beV a b c d=true by unfold beV; rw [hd1]; rfl)
  have aG:=aA.out.cell 0 rfl
  have aH:=aB.out.cell 0 rfl
  go_enter Tryz.func44,Tryz.ntmps44
  go_wp2
  clear aC aG aH
  go_ret
  exact ⟨by rw [HV.out] <;> rfl,aD.out⟩
 ·have hd1:decide (a < c)=false:=decide_eq_false h1
  have hd2:(a == c)=false:=by simp [h2]
  have HV:=hJ (show beV a b c d=false by unfold beV; rw [hd1,decide_eq_false h2]; rfl)
  have aI:=aA.out.cell 0 rfl
  have aJ:=aB.out.cell 0 rfl
  have aK:=aA.out.cell 0 rfl
  have aL:=aB.out.cell 0 rfl
  go_enter Tryz.func44,Tryz.ntmps44
  go_wp2
  clear aC aI aJ aK aL
  go_ret
  exact ⟨by rw [HV.out] <;> rfl,aD.out⟩
 ·obtain rfl:=h1
  have hd1:decide (a < a)=false:=decide_eq_false (by omega)
  have hd2:decide (b < d)=true:=decide_eq_true h2
  have HV:=hJ (show beV a b a d=true by unfold beV; rw [hd1,hd2]; simp)
  have aM:=aA.out.cell 0 rfl
  have aO:=aB.out.cell 0 rfl
  have aR:=aA.out.cell 0 rfl
  have aS:=aB.out.cell 0 rfl
  have aT:=aA.out.cell 1 rfl
  have aU:=aB.out.cell 1 rfl
  go_enter Tryz.func44,Tryz.ntmps44
  go_wp2
  clear aC aM aO aR aS aT aU
  go_ret
  exact ⟨by rw [HV.out] <;> rfl,aD.out⟩
 ·obtain rfl:=h1
  have hd1:decide (a < a)=false:=decide_eq_false (by omega)
  have hd2:decide (b < d)=false:=decide_eq_false h2
  have HV:=hJ (show beV a b a d=false by unfold beV; rw [hd1,hd2]; simp)
  have aV:=aA.out.cell 0 rfl
  have aW:=aB.out.cell 0 rfl
  have aX:=aA.out.cell 0 rfl
  have aY:=aB.out.cell 0 rfl
  have aZ:=aA.out.cell 1 rfl
  have bA:=aB.out.cell 1 rfl
  go_enter Tryz.func44,Tryz.ntmps44
  go_wp2
  clear aC aV aW aX aY aZ bA
  go_ret
  exact ⟨by rw [HV.out] <;> rfl,aD.out⟩
set_option maxRecDepth 100000 in
set_option maxHeartbeats 1600000 in
theorem rnormal7_any (ax ay bx by':Int) (w:World) :
  Calls Tryz.prog 17 #[.agg #[.int .i64 ax,.int .i64 ay,.int .i64 bx,.int .i64 by']] w fun e w'=>e=.returned ((noV ax ay bx by'))∧Below w.heap.size w w':=by
 obtain ⟨bo,hbo⟩:=nmz (beV bx by' ax ay)
 have aU:=hJ hbo
 have aJ:=hJ (show (0 < pcV ax 1 ay 1 bx 1 by' 1)↔bo=true by rw [←hbo]; exact nor_be ax ay bx by')
 clear hbo
 obtain ⟨x1,aC⟩:=nmz ((w.alloc (.cells #[.int .i64 ax,.int .i64 ay,.int .i64 bx,.int .i64 by'] 25)).alloc (.cells #[.int .i64 0,.int .i64 0,.int .i64 0,.int .i64 0] 25))
 have aK:=hJ (show Below w.heap.size w x1 by rw [←aC]; exact (((Below.refl _ _).alloc (Nat.le_refl _) _).alloc (by simp only [World.size_alloc]; omega) _))
 have aD:=hJ (show BX 25 x1 w.heap.size #[.int .i64 ax,.int .i64 ay,.int .i64 bx,.int .i64 by'] by rw [←aC]; exact ((BX.at rfl).alloc _))
 have aL:=hJ (show BX 25 x1 (w.heap.size+1) #[.int .i64 0,.int .i64 0,.int .i64 0,.int .i64 0] by rw [←aC]; exact (BX.at (by simp only [World.size_alloc])))
 have aM:=hJ (show w.heap.size≤w.heap.size+1 by omega)
 obtain ⟨aV,aW⟩:=aD.out.c2 2 3 rfl rfl
 obtain ⟨aX,aY⟩:=aD.out.c2 0 1 rfl rfl
 go_enter Tryz.func17,Tryz.ntmps17
 go_wp2_with fail
 clear aC aV aW aX aY
 refine (rbefore_any bx by' ax ay x1).mono ?_
 rw [aU.out]
 rintro e w6 ⟨rfl,hb⟩
 have aB:=hJ hb
 clear hb
 rcases (show bo=true∨bo=false by cases bo <;> simp) with hc | hc
 ·have aH:=hJ (show noV ax ay bx by'=.agg #[.int .i64 bx,.int .i64 by',.int .i64 ax,.int .i64 ay] from if_pos (aJ.out.2 hc))
  obtain rfl:=hc
  have aG:=hJ (BX.new aD.out aB.out)
  obtain ⟨aZ,bA⟩:=aG.out.c2 2 3 rfl rfl
  obtain ⟨bB,bC⟩:=aG.out.c2 0 1 rfl rfl
  have aA:=hJ (BX.new aL.out aB.out)
  have bD:=aA.out.frozen 0
  have bE:=aA.out.cell 0 rfl
  have bF:=aA.out.frozen 1
  have bG:=aA.out.cell 1 rfl
  have bH:=aA.out.frozen 2
  have bJ:=aA.out.cell 2 rfl
  have bK:=aA.out.frozen 3
  have bL:=aA.out.cell 3 rfl
  obtain ⟨x11,aO⟩:=nmz (World.setCell (World.setCell (World.setCell (World.setCell w6 ⟨w.heap.size+1,0,none⟩ (.int .i64 bx)) ⟨w.heap.size+1,1,none⟩ (.int .i64 by')) ⟨w.heap.size+1,2,none⟩ (.int .i64 ax)) ⟨w.heap.size+1,3,none⟩ (.int .i64 ay))
  have aR:=hJ (show sto w6 (w.heap.size+1) 0 [.int .i64 bx,.int .i64 by',.int .i64 ax,.int .i64 ay]=x11 from aO)
  have bM:=hJ (show BX 25 x11 (w.heap.size+1) #[.int .i64 bx,.int .i64 by',.int .i64 ax,.int .i64 ay] by rw [←aR.out]; exact BX.put aA.out _ _)
  have aI:=hJ (show Below w.heap.size w x11 by rw [←aR.out]; exact below_sto (bt aK.out aB.out) aM.out _ _)
  go_wp2
  clear aZ bA bB bC bD bE bF bG bH bJ bK bL aO
  exact bodyPost_ret (results_cell_row rfl _ _ _ _ _ _ _ rfl bM.out Tryz.underlying25 rfl (by kernel_rfl)) rfl ⟨by rw [aH.out] <;> rfl,aI.out⟩
 ·have aH:=hJ (show noV ax ay bx by'=.agg #[.int .i64 ax,.int .i64 ay,.int .i64 bx,.int .i64 by'] from if_neg (fun h=>by rw [aJ.out.1 h] at hc; cases hc))
  obtain rfl:=hc
  have aG:=hJ (BX.new aD.out aB.out)
  obtain ⟨bN,bO,bP,bQ⟩:=aG.out.c4 0 1 2 3 rfl rfl rfl rfl
  have aA:=hJ (BX.new aL.out aB.out)
  have bR:=aA.out.frozen 0
  have bS:=aA.out.cell 0 rfl
  have bT:=aA.out.frozen 1
  have bU:=aA.out.cell 1 rfl
  have bV:=aA.out.frozen 2
  have bW:=aA.out.cell 2 rfl
  have bX:=aA.out.frozen 3
  have bY:=aA.out.cell 3 rfl
  obtain ⟨x16,aS⟩:=nmz (World.setCell (World.setCell (World.setCell (World.setCell w6 ⟨w.heap.size+1,0,none⟩ (.int .i64 ax)) ⟨w.heap.size+1,1,none⟩ (.int .i64 ay)) ⟨w.heap.size+1,2,none⟩ (.int .i64 bx)) ⟨w.heap.size+1,3,none⟩ (.int .i64 by'))
  have aT:=hJ (show sto w6 (w.heap.size+1) 0 [.int .i64 ax,.int .i64 ay,.int .i64 bx,.int .i64 by']=x16 from aS)
  have bZ:=hJ (show BX 25 x16 (w.heap.size+1) #[.int .i64 ax,.int .i64 ay,.int .i64 bx,.int .i64 by'] by rw [←aT.out]; exact BX.put aA.out _ _)
  have aI:=hJ (show Below w.heap.size w x16 by rw [←aT.out]; exact below_sto (bt aK.out aB.out) aM.out _ _)
  go_wp2
  clear bN bO bP bQ bR bS bT bU bV bW bX bY aS
  exact bodyPost_ret (results_cell_row rfl _ _ _ _ _ _ _ rfl bZ.out Tryz.underlying25 rfl (by kernel_rfl)) rfl ⟨by rw [aH.out] <;> rfl,aI.out⟩
set_option maxRecDepth 100000 in
set_option maxHeartbeats 1600000 in
theorem rcmp7_any (X Y D X' Y' D':Int) (w:World) (h:Rb X Y D) (g:Rb X' Y' D') :
  Calls Tryz.prog 88 #[.agg #[.int .i64 X,.int .i64 Y,.int .i64 D],.agg #[.int .i64 X',.int .i64 Y',.int .i64 D']] w fun e w'=>e=.returned ((.int .i64 (rcV X Y D X' Y' D')))∧Below w.heap.size w w':=by
 have HI:=hJ (rb_i6 h g)
 clear h g
 obtain ⟨cx,hcx⟩:=nmz (cmpI (X*D') (X'*D))
 obtain ⟨cy,hcy⟩:=nmz (cmpI (Y*D') (Y'*D))
 have aI:=hJ (show cmpI (X*D' - X'*D) 0=cx from (cm_subz _ _).trans hcx)
 have aJ:=hJ (show cmpI (Y*D' - Y'*D) 0=cy from (cm_subz _ _).trans hcy)
 have aG:=hJ (show rcV X Y D X' Y' D'=if cx=0 then cy else cx by unfold rcV; rw [hcx,hcy])
 clear hcx hcy
 obtain ⟨x1,aA⟩:=nmz ((w.alloc (.cells #[.int .i64 X,.int .i64 Y,.int .i64 D] 47)).alloc (.cells #[.int .i64 X',.int .i64 Y',.int .i64 D'] 47))
 have aH:=hJ (show Below w.heap.size w x1 by rw [←aA]; exact (((Below.refl _ _).alloc (Nat.le_refl _) _).alloc (by simp only [World.size_alloc]; omega) _))
 have aB:=hJ (show BX 47 x1 w.heap.size #[.int .i64 X,.int .i64 Y,.int .i64 D] by rw [←aA]; exact ((BX.at rfl).alloc _))
 have aC:=hJ (show BX 47 x1 (w.heap.size+1) #[.int .i64 X',.int .i64 Y',.int .i64 D'] by rw [←aA]; exact (BX.at (by simp only [World.size_alloc])))
 have aK:=aB.out.cell 0 rfl
 have aL:=aC.out.cell 2 rfl
 have aM:IntKind.i64.wrap (X*D')=X*D':=i6_wrap HI.out.1.1
 have aO:=aC.out.cell 0 rfl
 have aR:=aB.out.cell 2 rfl
 have aS:IntKind.i64.wrap (X'*D)=X'*D:=i6_wrap HI.out.1.2.1
 have aT:IntKind.i64.wrap ((X*D') - (X'*D))=(X*D') - (X'*D):=i6_wrap HI.out.1.2.2
 go_enter Tryz.func88,Tryz.ntmps88
 go_wp2_with fail
 clear aA aK aL aM aO aR aS aT
 refine (rsign_any ((X*D') - (X'*D)) x1).mono ?_
 rw [aI.out]
 rintro e w6 ⟨rfl,rfl⟩
 by_cases hc:cx=0
 ·have aD:=hJ (aG.out.trans (if_pos hc))
  obtain rfl:=hc
  have aU:=aB.out.cell 1 rfl
  have aV:=aC.out.cell 2 rfl
  have aW:IntKind.i64.wrap (Y*D')=Y*D':=i6_wrap HI.out.2.1
  have aX:=aC.out.cell 1 rfl
  have aY:=aB.out.cell 2 rfl
  have aZ:IntKind.i64.wrap (Y'*D)=Y'*D:=i6_wrap HI.out.2.2.1
  have bA:IntKind.i64.wrap ((Y*D') - (Y'*D))=(Y*D') - (Y'*D):=i6_wrap HI.out.2.2.2
  go_wp2_with fail
  clear aU aV aW aX aY aZ bA
  refine (rsign_any ((Y*D') - (Y'*D)) x1).mono ?_
  rw [aJ.out]
  rintro e w11 ⟨rfl,rfl⟩
  go_wp2
  go_ret
  exact ⟨by rw [aD.out] <;> rfl,aH.out⟩
 ·have hcz:(cx == 0)=false:=by simp [hc]
  have aD:=hJ (aG.out.trans (if_neg hc))
  go_wp2
  go_ret
  exact ⟨by rw [aD.out] <;> rfl,aH.out⟩
end Go.Proofs.YtdgicnhadecldaaGreat
