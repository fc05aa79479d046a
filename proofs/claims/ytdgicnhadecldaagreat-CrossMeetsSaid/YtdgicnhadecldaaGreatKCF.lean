/- Contracts of package meresmanref07: Seg, On. Conditions: as each statement has them. -/
import Derived.Test.YtdgicnhadecldaaGreatKB2
import Derived.Test.YtdgicnhadecldaaGreatKB5
import Derived.Test.YtdgicnhadecldaaGreatKEA
import Derived.Test.YtdgicnhadecldaaGreatKFD
import Derived.Test.YtdgicnhadecldaaGreatKQL
namespace Go.Proofs.YtdgicnhadecldaaGreat
open Go.RowKit
attribute [local go_sem ↓] Go.wp_at_zero Go.wp_at_succ
set_option linter.unusedVariables false
set_option linter.unusedSimpArgs false
theorem mul_in7 {a b A B:Int} (ha : -A≤a∧a≤A) (hb : -B≤b∧b≤B) : -(A*B)≤a*b∧a*b≤A*B:=by
 have h1:a.natAbs≤A.natAbs:=by omega
 have h2:b.natAbs≤B.natAbs:=by omega
 have h3:(a*b).natAbs≤(A*B).natAbs:=by rw [Int.natAbs_mul,Int.natAbs_mul]; exact Nat.mul_le_mul h1 h2
 have h4:0≤A*B:=Int.mul_nonneg (by omega) (by omega)
 omega
/-- A valid segment of small coordinates. -/
def Sg7 (ax ay bx by':Int):Prop:=((0≤ax∧ax≤33)∧(0≤ay∧ay≤33)∧(0≤bx∧bx≤33)∧(0≤by'∧by'≤33))∧¬ (ax=bx∧ay=by')
set_option maxRecDepth 100000 in
set_option maxHeartbeats 1600000 in
theorem rseg_any (n m:Int) (w:World) (hn:(Lit.int .i64 n).wf=true) (hm:(Lit.int .i64 m).wf=true) :
  Calls Tryz.prog 12 #[.int .i64 n,.int .i64 m] w (fun e w'=>∃ ax ay bx by',e=.returned (.agg #[.int .i64 ax,.int .i64 ay,.int .i64 bx,.int .i64 by'])∧Sg7 ax ay bx by'∧Below w.heap.size w w'):=by
 have HN:=hJ hn
 have HM:=hJ hm
 clear hn hm
 obtain ⟨x1,aM⟩:=nmz (w.alloc (.cells #[.int .i64 0,.int .i64 0,.int .i64 0,.int .i64 0] 25))
 have aL:=hJ (show Below w.heap.size w x1 by rw [←aM]; exact ((Below.refl _ _).alloc (Nat.le_refl _) _))
 have aO:=hJ (show BX 25 x1 w.heap.size #[.int .i64 0,.int .i64 0,.int .i64 0,.int .i64 0] by rw [←aM]; exact (BX.at rfl))
 have aR:=hJ (show w.heap.size≤w.heap.size by omega)
 go_enter Tryz.func12,Tryz.ntmps12
 go_wp2_with fail
 clear aM
 refine (grid_any n x1 HN.out).mono ?_
 rintro e w2 ⟨ax,ay,rfl,hcx,hcy,hb⟩
 have aD:=hJ hb
 clear hb
 have aI:=hJ (And.intro hcx hcy)
 clear hcx hcy
 go_wp2_with fail
 refine (grid_any m w2 HM.out).mono ?_
 rintro e w3 ⟨bx,by',rfl,hcx,hcy,hb⟩
 have aG:=hJ hb
 clear hb
 have aS:=hJ (And.intro hcx hcy)
 clear hcx hcy
 obtain ⟨x4,aJ⟩:=nmz (w3.alloc (.cells #[.int .i64 ax,.int .i64 ay,.int .i64 bx,.int .i64 by'] 25))
 have aH:=hJ (show Below w3.heap.size w3 x4 by rw [←aJ]; exact ((Below.refl _ _).alloc (Nat.le_refl _) _))
 have aB:=hJ (show BX 25 x4 w3.heap.size #[.int .i64 ax,.int .i64 ay,.int .i64 bx,.int .i64 by'] by rw [←aJ]; exact (BX.at rfl))
 have aW:=hJ (show w3.heap.size≤w3.heap.size by omega)
 rcases (show (ax=bx∧ay=by')∨¬ ax=bx∨(ax=bx∧¬ ay=by') by omega) with ⟨hc,hd⟩ | hc | ⟨hc,hd⟩
 ·obtain rfl:=hc
  obtain rfl:=hd
  have bE:=hJ (show I6 (ax+1) by have:=aI.out.1.1; have:=aI.out.1.2; unfold I6; omega)
  obtain ⟨bF,bG⟩:=aB.out.c2 0 1 rfl rfl
  obtain ⟨bH,bJ⟩:=aB.out.c2 2 3 rfl rfl
  have bK:=aB.out.cell 2 rfl
  have bL:IntKind.i64.wrap (ax+1)=ax+1:=i6_wrap bE.out
  have bM:=aB.out.frozen 2
  have bN:=aB.out.cell 2 rfl
  obtain ⟨x10,aX⟩:=nmz (World.setCell x4 ⟨w3.heap.size,2,none⟩ (.int .i64 (ax+1)))
  have aT:=hJ (show sto x4 w3.heap.size 2 [.int .i64 (ax+1)]=x10 from aX)
  have bO:=hJ (show BX 25 x10 w3.heap.size #[.int .i64 ax,.int .i64 ay,.int .i64 (ax+1),.int .i64 ay] by rw [←aT.out]; exact BX.put aB.out _ _)
  obtain ⟨bP,bQ,bR,bS⟩:=bO.out.c4 0 1 2 3 rfl rfl rfl rfl
  have bT:=hJ (bt aD.out aG.out)
  have bU:=hJ (show Below x1.heap.size x1 x10 by rw [←aT.out]; exact below_sto (bt (bt aD.out aG.out) aH.out) (Nat.le_trans (bT.out).size aW.out) _ _)
  have aC:=hJ (BX.new aO.out bU.out)
  have bV:=aC.out.frozen 0
  have bW:=aC.out.cell 0 rfl
  have bX:=aC.out.frozen 1
  have bY:=aC.out.cell 1 rfl
  have bZ:=aC.out.frozen 2
  have cA:=aC.out.cell 2 rfl
  have cB:=aC.out.frozen 3
  have cC:=aC.out.cell 3 rfl
  obtain ⟨x15,aY⟩:=nmz (World.setCell (World.setCell (World.setCell (World.setCell x10 ⟨w.heap.size,0,none⟩ (.int .i64 ax)) ⟨w.heap.size,1,none⟩ (.int .i64 ay)) ⟨w.heap.size,2,none⟩ (.int .i64 (ax+1))) ⟨w.heap.size,3,none⟩ (.int .i64 ay))
  have aZ:=hJ (show sto x10 w.heap.size 0 [.int .i64 ax,.int .i64 ay,.int .i64 (ax+1),.int .i64 ay]=x15 from aY)
  have cD:=hJ (show BX 25 x15 w.heap.size #[.int .i64 ax,.int .i64 ay,.int .i64 (ax+1),.int .i64 ay] by rw [←aZ.out]; exact BX.put aC.out _ _)
  have cE:=hJ (bt (bt aL.out aD.out) aG.out)
  have aK:=hJ (show Below w.heap.size w x10 by rw [←aT.out]; exact below_sto (bt (bt (bt aL.out aD.out) aG.out) aH.out) (Nat.le_trans (cE.out).size aW.out) _ _)
  have cF:=hJ (show Below w.heap.size w x15 by rw [←aZ.out]; exact below_sto aK.out aR.out _ _)
  go_wp2
  clear aJ bF bG bH bJ bK bL bM bN aX bP bQ bR bS bV bW bX bY bZ cA cB cC aY
  exact bodyPost_ret (results_cell_row rfl _ _ _ _ _ _ _ rfl cD.out Tryz.underlying25 rfl (by kernel_rfl)) rfl ⟨_,_,_,_,rfl,(by have h1:=aI.out; have h2:=aS.out; unfold Co at h1 h2; unfold Sg7; omega),cF.out⟩
 ·have aU:=hJ (show ¬ (ax=bx∧ay=by') from fun h=>hc h.1)
  obtain ⟨cG,cH⟩:=aB.out.c2 0 1 rfl rfl
  obtain ⟨cI,cJ⟩:=aB.out.c2 2 3 rfl rfl
  obtain ⟨cK,cL,cM,cN⟩:=aB.out.c4 0 1 2 3 rfl rfl rfl rfl
  have aV:=hJ (bt (bt aD.out aG.out) aH.out)
  have aA:=hJ (BX.new aO.out aV.out)
  have cO:=aA.out.frozen 0
  have cP:=aA.out.cell 0 rfl
  have cQ:=aA.out.frozen 1
  have cR:=aA.out.cell 1 rfl
  have cS:=aA.out.frozen 2
  have cT:=aA.out.cell 2 rfl
  have cU:=aA.out.frozen 3
  have cV:=aA.out.cell 3 rfl
  obtain ⟨x24,bA⟩:=nmz (World.setCell (World.setCell (World.setCell (World.setCell x4 ⟨w.heap.size,0,none⟩ (.int .i64 ax)) ⟨w.heap.size,1,none⟩ (.int .i64 ay)) ⟨w.heap.size,2,none⟩ (.int .i64 bx)) ⟨w.heap.size,3,none⟩ (.int .i64 by'))
  have bB:=hJ (show sto x4 w.heap.size 0 [.int .i64 ax,.int .i64 ay,.int .i64 bx,.int .i64 by']=x24 from bA)
  have cW:=hJ (show BX 25 x24 w.heap.size #[.int .i64 ax,.int .i64 ay,.int .i64 bx,.int .i64 by'] by rw [←bB.out]; exact BX.put aA.out _ _)
  have aK:=hJ (show Below w.heap.size w x24 by rw [←bB.out]; exact below_sto (bt (bt (bt aL.out aD.out) aG.out) aH.out) aR.out _ _)
  go_wp2
  clear aJ cG cH cI cJ cK cL cM cN cO cP cQ cR cS cT cU cV bA
  exact bodyPost_ret (results_cell_row rfl _ _ _ _ _ _ _ rfl cW.out Tryz.underlying25 rfl (by kernel_rfl)) rfl ⟨_,_,_,_,rfl,(by have h1:=aI.out; have h2:=aS.out; have h3:=aU.out; unfold Co at h1 h2; exact ⟨by omega,by simpa using h3⟩),aK.out⟩
 ·obtain rfl:=hc
  have aU:=hJ (show ¬ (ax=ax∧ay=by') from fun h=>hd h.2)
  obtain ⟨cX,cY⟩:=aB.out.c2 0 1 rfl rfl
  obtain ⟨cZ,dA⟩:=aB.out.c2 2 3 rfl rfl
  obtain ⟨dB,dD,dE,dG⟩:=aB.out.c4 0 1 2 3 rfl rfl rfl rfl
  have aV:=hJ (bt (bt aD.out aG.out) aH.out)
  have aA:=hJ (BX.new aO.out aV.out)
  have dH:=aA.out.frozen 0
  have dI:=aA.out.cell 0 rfl
  have dJ:=aA.out.frozen 1
  have dK:=aA.out.cell 1 rfl
  have dL:=aA.out.frozen 2
  have dM:=aA.out.cell 2 rfl
  have dN:=aA.out.frozen 3
  have dO:=aA.out.cell 3 rfl
  obtain ⟨x33,bC⟩:=nmz (World.setCell (World.setCell (World.setCell (World.setCell x4 ⟨w.heap.size,0,none⟩ (.int .i64 ax)) ⟨w.heap.size,1,none⟩ (.int .i64 ay)) ⟨w.heap.size,2,none⟩ (.int .i64 ax)) ⟨w.heap.size,3,none⟩ (.int .i64 by'))
  have bD:=hJ (show sto x4 w.heap.size 0 [.int .i64 ax,.int .i64 ay,.int .i64 ax,.int .i64 by']=x33 from bC)
  have dP:=hJ (show BX 25 x33 w.heap.size #[.int .i64 ax,.int .i64 ay,.int .i64 ax,.int .i64 by'] by rw [←bD.out]; exact BX.put aA.out _ _)
  have aK:=hJ (show Below w.heap.size w x33 by rw [←bD.out]; exact below_sto (bt (bt (bt aL.out aD.out) aG.out) aH.out) aR.out _ _)
  go_wp2
  clear aJ cX cY cZ dA dB dD dE dG dH dI dJ dK dL dM dN dO bC
  exact bodyPost_ret (results_cell_row rfl _ _ _ _ _ _ _ rfl dP.out Tryz.underlying25 rfl (by kernel_rfl)) rfl ⟨_,_,_,_,rfl,(by have h1:=aI.out; have h2:=aS.out; have h3:=aU.out; unfold Co at h1 h2; exact ⟨by omega,by simpa using h3⟩),aK.out⟩
end Go.Proofs.YtdgicnhadecldaaGreat
