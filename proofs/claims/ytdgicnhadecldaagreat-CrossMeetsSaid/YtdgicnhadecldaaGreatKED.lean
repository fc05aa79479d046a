/- Contracts: Turn, Sector, SideOf. Conditions: as each statement has them. -/
import Derived.Test.YtdgicnhadecldaaGreatKEA
namespace Go.Proofs.YtdgicnhadecldaaGreat
set_option maxRecDepth 100000
set_option maxHeartbeats 12800000
open Go.RowKit
attribute [local go_sem ↓] Go.wp_at_zero Go.wp_at_succ
set_option linter.unusedVariables false
set_option linter.unusedSimpArgs false
theorem sideof_any (ax ay bx by' cx cy:Int) (w:World) :
  Calls Tryz.prog 85 #[.agg #[.int .i64 ax,.int .i64 ay],.agg #[.int .i64 bx,.int .i64 by'],.agg #[.int .i64 cx,.int .i64 cy]] w fun e w'=>e=.returned (.tuple #[.int .i64 (soV ax ay bx by' cx cy),.int .i64 (soE ax ay bx by' cx cy)])∧Below w.heap.size w w':=by
 obtain ⟨E,hE⟩:=nmz (soE ax ay bx by' cx cy)
 have HE:=hJ hE
 clear hE
 obtain ⟨x1,aA⟩:=nmz (((w.alloc (.cells #[.int .i64 ax,.int .i64 ay] 23)).alloc (.cells #[.int .i64 bx,.int .i64 by'] 23)).alloc (.cells #[.int .i64 cx,.int .i64 cy] 23))
 have aH:=hJ (show Below w.heap.size w x1 by rw [←aA]; exact ((((Below.refl _ _).alloc (Nat.le_refl _) _).alloc (by simp only [World.size_alloc]; omega) _).alloc (by simp only [World.size_alloc]; omega) _))
 have aI:=hJ (show BX 23 x1 w.heap.size #[.int .i64 ax,.int .i64 ay] by rw [←aA]; exact (((BX.at rfl).alloc _).alloc _))
 have aJ:=hJ (show BX 23 x1 (w.heap.size+1) #[.int .i64 bx,.int .i64 by'] by rw [←aA]; exact ((BX.at (by simp only [World.size_alloc])).alloc _))
 have aK:=hJ (show BX 23 x1 (w.heap.size+2) #[.int .i64 cx,.int .i64 cy] by rw [←aA]; exact (BX.at (by simp only [World.size_alloc])))
 obtain ⟨aL,aM⟩:=aI.out.c2 0 1 rfl rfl
 obtain ⟨aO,aR⟩:=aJ.out.c2 0 1 rfl rfl
 obtain ⟨aS,aT⟩:=aK.out.c2 0 1 rfl rfl
 obtain ⟨x8,aB⟩:=nmz (x1.alloc (.cells #[.int .i64 ax,.int .i64 ay,.int .i64 bx,.int .i64 by',.int .i64 cx,.int .i64 cy] 23))
 have aC:=hJ (show Below x1.heap.size x1 x8 by rw [←aB]; exact ((Below.refl _ _).alloc (Nat.le_refl _) _))
 have aU:=hJ (show BX 23 x8 x1.heap.size #[.int .i64 ax,.int .i64 ay,.int .i64 bx,.int .i64 by',.int .i64 cx,.int .i64 cy] by rw [←aB]; exact (BX.at rfl))
 go_enter Tryz.func85,Tryz.ntmps85
 go_wp2_with fail
 clear aA aL aM aO aR aS aT aB
 refine (valids_any [(ax,ay),(bx,by'),(cx,cy)] 3 x1.heap.size x8 rfl (by decide) aU.out).mono ?_
 rw [show fsE vdP [(ax,ay),(bx,by'),(cx,cy)]=E from HE.out]
 rintro e w9 ⟨rfl,hb⟩
 have aD:=hJ hb
 clear hb
 by_cases hE0:E=0
 ·subst hE0
  have HG:=hJ (g3_ok (vd_nk (fs_cons HE.out).1) (vd_nk (fs_two (fs_cons HE.out).2).1) (vd_nk (fs_two (fs_cons HE.out).2).2))
  have HV:=hJ (show soV ax ay bx by' cx cy=sdV ax ay bx by' cx cy from if_pos HE.out)
  have aG:=hJ (bt aC.out aD.out)
  have aV:=hJ (BX.new aI.out aG.out)
  obtain ⟨aW,aX⟩:=aV.out.c2 0 1 rfl rfl
  have aY:=hJ (BX.new aJ.out aG.out)
  obtain ⟨aZ,bA⟩:=aY.out.c2 0 1 rfl rfl
  have bB:=hJ (BX.new aK.out aG.out)
  obtain ⟨bC,bD⟩:=bB.out.c2 0 1 rfl rfl
  go_wp2_with fail
  clear aW aX aZ bA bC bD
  refine (gridside_any ax ay bx by' cx cy w9 HG.out).mono ?_
  rintro e w16 ⟨rfl,hb⟩
  have bE:=hJ hb
  clear hb
  have bF:=hJ (bt (bt (bt aH.out aC.out) aD.out) bE.out)
  go_wp2
  go_ret2
  exact ⟨by rw [HV.out,HE.out] <;> rfl,bF.out⟩
 ·have hEz:(E == 0)=false:=by simp [hE0]
  have HV:=hJ (show soV ax ay bx by' cx cy=0 from if_neg (by rw [HE.out]; exact hE0))
  clear hE0
  have bG:=hJ (bt (bt aH.out aC.out) aD.out)
  go_wp2
  go_ret2
  exact ⟨by rw [HV.out,HE.out] <;> rfl,bG.out⟩
end Go.Proofs.YtdgicnhadecldaaGreat
