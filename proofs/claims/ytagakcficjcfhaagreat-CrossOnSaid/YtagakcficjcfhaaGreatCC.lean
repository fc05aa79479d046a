/- Contracts of package cross: Normal, Valid. Conditions: as each statement has them. -/
import Derived.Test.YtagakcficjcfhaaGreatAE
import Derived.Test.YtagakcficjcfhaaGreatB2
import Derived.Test.YtagakcficjcfhaaGreatB5
import Derived.Test.YtagakcficjcfhaaGreatCA
import Derived.Test.YtagakcficjcfhaaGreatEA
import Derived.Test.YtagakcficjcfhaaGreatFD
import Derived.Test.YtagakcficjcfhaaGreatFI
import Derived.Test.YtagakcficjcfhaaGreatPF
namespace Go.Proofs.YtagakcficjcfhaaGreat
open Go.RowKit
attribute [local go_sem ↓] Go.wp_at_zero Go.wp_at_succ
set_option linter.unusedVariables false
set_option linter.unusedSimpArgs false
theorem int_fr {x:Int} (h:(Lit.int .i64 x).wf=true):Fr x 1:=⟨⟨by decide,Nat.gcd_one_right _⟩,i64_lim h,i64_lim (x:=1) (by decide)⟩
/-- The ends in order. -/
def noV (ax ay bx by':Int):Value:=if 0 < pcV ax 1 ay 1 bx 1 by' 1 then .agg #[.int .i64 bx,.int .i64 by',.int .i64 ax,.int .i64 ay] else .agg #[.int .i64 ax,.int .i64 ay,.int .i64 bx,.int .i64 by']
set_option maxRecDepth 100000 in
set_option maxHeartbeats 1600000 in
theorem cnorm_any (ax ay bx by':Int) (w:World) (hv:(vdP (ax,ay)=0∧vdP (bx,by')=0)∧¬ (ax=bx∧ay=by')) :
  Calls Tryz.prog 14 #[.agg #[.int .i64 ax,.int .i64 ay,.int .i64 bx,.int .i64 by']] w fun e w'=>e=.returned (.tuple #[(noV ax ay bx by'),.int .i64 0])∧Below w.heap.size w w':=by
 have HV:=hJ hv
 have aA:=hJ (And.intro (vd_wf hv.1.1) (vd_wf hv.1.2))
 clear hv
 obtain ⟨cm,hcm⟩:=nmz (pcV ax 1 ay 1 bx 1 by' 1)
 have aG:=hJ hcm
 clear hcm
 obtain ⟨x1,aH⟩:=nmz ((w.alloc (.cells #[.int .i64 ax,.int .i64 ay,.int .i64 bx,.int .i64 by'] 25)).alloc (.cells #[.int .i64 0,.int .i64 0,.int .i64 0,.int .i64 0] 25))
 have aY:=hJ (show Below w.heap.size w x1 by rw [←aH]; exact (((Below.refl _ _).alloc (Nat.le_refl _) _).alloc (by simp only [World.size_alloc]; omega) _))
 have aS:=hJ (show BX 25 x1 w.heap.size #[.int .i64 ax,.int .i64 ay,.int .i64 bx,.int .i64 by'] by rw [←aH]; exact ((BX.at rfl).alloc _))
 have aZ:=hJ (show BX 25 x1 (w.heap.size+1) #[.int .i64 0,.int .i64 0,.int .i64 0,.int .i64 0] by rw [←aH]; exact (BX.at (by simp only [World.size_alloc])))
 have bA:=hJ (show w.heap.size≤w.heap.size+1 by omega)
 obtain ⟨bK,bL,bM,bN⟩:=aS.out.c4 0 1 2 3 rfl rfl rfl rfl
 obtain ⟨x6,aT⟩:=nmz (x1.alloc (.cells #[.int .i64 ax,.int .i64 ay,.int .i64 bx,.int .i64 by'] 25))
 have aI:=hJ (show Below x1.heap.size x1 x6 by rw [←aT]; exact ((Below.refl _ _).alloc (Nat.le_refl _) _))
 have bO:=hJ (show BX 25 x6 x1.heap.size #[.int .i64 ax,.int .i64 ay,.int .i64 bx,.int .i64 by'] by rw [←aT]; exact (BX.at rfl))
 go_enter Tryz.func14,Tryz.ntmps14
 go_wp2_with fail
 clear aH bK bL bM bN aT
 refine (ferr1_any ax ay bx by' x1.heap.size x6 bO.out HV.out).mono ?_
 rintro e w7 ⟨rfl,hb⟩
 have aJ:=hJ hb
 clear hb
 by_cases hc:0 < cm
 ·have hcz:decide (0 < cm)=true:=decide_eq_true hc
  have HO:=hJ hc
  clear hc
  have aD:=hJ (bt aI.out aJ.out)
  have aC:=hJ (BX.new aS.out aD.out)
  have aK:Hid (∀ w',Below w7.heap.size w7 w'→(fun w':World=>w'.cell? ⟨w.heap.size,0,none⟩=some (.int .i64 ax)∧w'.cell? ⟨w.heap.size,1,none⟩=some (.int .i64 ay)∧w'.cell? ⟨w.heap.size,2,none⟩=some (.int .i64 bx)∧w'.cell? ⟨w.heap.size,3,none⟩=some (.int .i64 by')∧Below w7.heap.size w7 w') w'):=hJ (fun w' hb=>⟨(BX.new aC.out hb).cell 0 rfl,(BX.new aC.out hb).cell 1 rfl,(BX.new aC.out hb).cell 2 rfl,(BX.new aC.out hb).cell 3 rfl,hb⟩)
  go_wp2_with fail
  obtain ⟨v8,hv8⟩:=nmz (World.drew w7)
  have bP:=hJ (show Below w7.heap.size w7 v8 by rw [←hv8]; exact (Below.refl _ _).drew)
  refine whd aK hv8 (fun hHeld=>?_)
  clear hv8
  refine tq 0 ?_
  refine tq 1 ?_
  refine tq 3 ?_
  refine tq 4 ?_
  try simp only [PT]
  refine ryy [2] ?_
  refine .cons rfl (fun K hK=>?_) .nil
  go_simp
  go_at_call 21
  refine (pof_any ax ay v8 aA.out.1.1 aA.out.1.2).mono ?_
  rintro e v9 ⟨s11,A11,n11,c11,t11,B11,m11,d11,s12,A12,n12,c12,t12,B12,m12,d12,rfl,hr11,hr12,hb⟩
  have bQ:=hJ hb
  have bR:=hJ hr11
  have bS:=hJ hr12
  clear hb hr11 hr12
  go_wp2_with fail
  have bB:=hJ (bt bP.out bQ.out)
  clear hHeld
  refine hK.out _ _ (aK.out _ bB.out) (fun hHeld=>?_)
  clear hK K
  try simp only [PT]
  refine ryy [5] ?_
  refine .cons rfl (fun K hK=>?_) .nil
  go_simp
  go_at_call 21
  refine (pof_any bx by' v9 aA.out.2.1 aA.out.2.2).mono ?_
  rintro e v10 ⟨s13,A13,n13,c13,t13,B13,m13,d13,s14,A14,n14,c14,t14,B14,m14,d14,rfl,hr13,hr14,hb⟩
  have aU:=hJ hb
  have bT:=hJ hr13
  have bU:=hJ hr14
  clear hb hr13 hr14
  go_wp2_with fail
  have bC:=hJ (bt bB.out aU.out)
  have bV:=hJ (PF.new bR.out aU.out)
  have bW:=hJ (PF.new bS.out aU.out)
  clear hHeld
  refine hK.out _ _ (aK.out _ bC.out) (fun hHeld=>?_)
  clear hK K
  try simp only [PT]
  refine ryy [6] ?_
  refine .cons rfl (fun K hK=>?_) .nil
  go_simp
  go_at_call 34
  refine (ptcompare_any ax 1 ay 1 bx 1 by' 1 s11 A11 n11 c11 t11 B11 m11 d11 s12 A12 n12 c12 t12 B12 m12 d12 s13 A13 n13 c13 t13 B13 m13 d13 s14 A14 n14 c14 t14 B14 m14 d14 v10 bV.out bW.out bT.out bU.out ⟨⟨(int_fr aA.out.1.1).1.1,(int_fr aA.out.1.1).2.1,(int_fr aA.out.1.1).2.2⟩,⟨(int_fr aA.out.1.2).1.1,(int_fr aA.out.1.2).2.1,(int_fr aA.out.1.2).2.2⟩,⟨(int_fr aA.out.2.1).1.1,(int_fr aA.out.2.1).2.1,(int_fr aA.out.2.1).2.2⟩,⟨(int_fr aA.out.2.2).1.1,(int_fr aA.out.2.2).2.1,(int_fr aA.out.2.2).2.2⟩⟩).mono ?_
  rw [aG.out]
  rintro e v11 ⟨rfl,hb⟩
  have bX:=hJ hb
  clear hb
  go_wp2_with fail
  have aL:=hJ (bt bC.out bX.out)
  clear hHeld
  refine hK.out _ _ (aK.out _ aL.out) (fun hHeld=>?_)
  clear hK K
  refine tq 7 ?_
  try simp only [PT]
  refine wpAnyH_done (by kernel_rfl) ?_ _
  clear hHeld
  have aM:=hJ (BX.new aC.out aL.out)
  obtain ⟨bY,bZ⟩:=aM.out.c2 2 3 rfl rfl
  obtain ⟨cA,cB⟩:=aM.out.c2 0 1 rfl rfl
  have aV:=hJ (bt aD.out aL.out)
  have aB:=hJ (BX.new aZ.out aV.out)
  have cC:=aB.out.frozen 0
  have cD:=aB.out.cell 0 rfl
  have cE:=aB.out.frozen 1
  have cF:=aB.out.cell 1 rfl
  have cG:=aB.out.frozen 2
  have cH:=aB.out.cell 2 rfl
  have cI:=aB.out.frozen 3
  have cJ:=aB.out.cell 3 rfl
  obtain ⟨x16,bD⟩:=nmz (World.setCell (World.setCell (World.setCell (World.setCell v11 ⟨w.heap.size+1,0,none⟩ (.int .i64 bx)) ⟨w.heap.size+1,1,none⟩ (.int .i64 by')) ⟨w.heap.size+1,2,none⟩ (.int .i64 ax)) ⟨w.heap.size+1,3,none⟩ (.int .i64 ay))
  have bE:=hJ (show sto v11 (w.heap.size+1) 0 [.int .i64 bx,.int .i64 by',.int .i64 ax,.int .i64 ay]=x16 from bD)
  have cK:=hJ (show BX 25 x16 (w.heap.size+1) #[.int .i64 bx,.int .i64 by',.int .i64 ax,.int .i64 ay] by rw [←bE.out]; exact BX.put aB.out _ _)
  have aW:=hJ (show Below w.heap.size w x16 by rw [←bE.out]; exact below_sto (bt (bt (bt aY.out aI.out) aJ.out) aL.out) bA.out _ _)
  go_wp2
  clear bY bZ cA cB cC cD cE cF cG cH cI cJ bD
  exact bodyPost_ret (results_cell1 rfl _ _ _ _ _ _ _ rfl cK.out Tryz.underlying25 rfl (by kernel_rfl)) rfl ⟨by unfold noV; rw [aG.out,if_pos HO.out] <;> rfl,aW.out⟩
 ·have hcz:decide (0 < cm)=false:=decide_eq_false hc
  have HO:=hJ hc
  clear hc
  have aD:=hJ (bt aI.out aJ.out)
  have aC:=hJ (BX.new aS.out aD.out)
  have aO:Hid (∀ w',Below w7.heap.size w7 w'→(fun w':World=>w'.cell? ⟨w.heap.size,0,none⟩=some (.int .i64 ax)∧w'.cell? ⟨w.heap.size,1,none⟩=some (.int .i64 ay)∧w'.cell? ⟨w.heap.size,2,none⟩=some (.int .i64 bx)∧w'.cell? ⟨w.heap.size,3,none⟩=some (.int .i64 by')∧Below w7.heap.size w7 w') w'):=hJ (fun w' hb=>⟨(BX.new aC.out hb).cell 0 rfl,(BX.new aC.out hb).cell 1 rfl,(BX.new aC.out hb).cell 2 rfl,(BX.new aC.out hb).cell 3 rfl,hb⟩)
  go_wp2_with fail
  obtain ⟨v17,hv17⟩:=nmz (World.drew w7)
  have cL:=hJ (show Below w7.heap.size w7 v17 by rw [←hv17]; exact (Below.refl _ _).drew)
  refine whd aO hv17 (fun hHeld=>?_)
  clear hv17
  refine tq 0 ?_
  refine tq 1 ?_
  refine tq 3 ?_
  refine tq 4 ?_
  try simp only [PT]
  refine ryy [2] ?_
  refine .cons rfl (fun K hK=>?_) .nil
  go_simp
  go_at_call 21
  refine (pof_any ax ay v17 aA.out.1.1 aA.out.1.2).mono ?_
  rintro e v18 ⟨s15,A15,n15,c15,t15,B15,m15,d15,s16,A16,n16,c16,t16,B16,m16,d16,rfl,hr15,hr16,hb⟩
  have cM:=hJ hb
  have cN:=hJ hr15
  have cO:=hJ hr16
  clear hb hr15 hr16
  go_wp2_with fail
  have bF:=hJ (bt cL.out cM.out)
  clear hHeld
  refine hK.out _ _ (aO.out _ bF.out) (fun hHeld=>?_)
  clear hK K
  try simp only [PT]
  refine ryy [5] ?_
  refine .cons rfl (fun K hK=>?_) .nil
  go_simp
  go_at_call 21
  refine (pof_any bx by' v18 aA.out.2.1 aA.out.2.2).mono ?_
  rintro e v19 ⟨s17,A17,n17,c17,t17,B17,m17,d17,s18,A18,n18,c18,t18,B18,m18,d18,rfl,hr17,hr18,hb⟩
  have aX:=hJ hb
  have cP:=hJ hr17
  have cQ:=hJ hr18
  clear hb hr17 hr18
  go_wp2_with fail
  have bG:=hJ (bt bF.out aX.out)
  have cR:=hJ (PF.new cN.out aX.out)
  have cS:=hJ (PF.new cO.out aX.out)
  clear hHeld
  refine hK.out _ _ (aO.out _ bG.out) (fun hHeld=>?_)
  clear hK K
  try simp only [PT]
  refine ryy [6] ?_
  refine .cons rfl (fun K hK=>?_) .nil
  go_simp
  go_at_call 34
  refine (ptcompare_any ax 1 ay 1 bx 1 by' 1 s15 A15 n15 c15 t15 B15 m15 d15 s16 A16 n16 c16 t16 B16 m16 d16 s17 A17 n17 c17 t17 B17 m17 d17 s18 A18 n18 c18 t18 B18 m18 d18 v19 cR.out cS.out cP.out cQ.out ⟨⟨(int_fr aA.out.1.1).1.1,(int_fr aA.out.1.1).2.1,(int_fr aA.out.1.1).2.2⟩,⟨(int_fr aA.out.1.2).1.1,(int_fr aA.out.1.2).2.1,(int_fr aA.out.1.2).2.2⟩,⟨(int_fr aA.out.2.1).1.1,(int_fr aA.out.2.1).2.1,(int_fr aA.out.2.1).2.2⟩,⟨(int_fr aA.out.2.2).1.1,(int_fr aA.out.2.2).2.1,(int_fr aA.out.2.2).2.2⟩⟩).mono ?_
  rw [aG.out]
  rintro e v20 ⟨rfl,hb⟩
  have cT:=hJ hb
  clear hb
  go_wp2_with fail
  have aR:=hJ (bt bG.out cT.out)
  clear hHeld
  refine hK.out _ _ (aO.out _ aR.out) (fun hHeld=>?_)
  clear hK K
  refine tq 7 ?_
  try simp only [PT]
  refine wpAnyH_done (by kernel_rfl) ?_ _
  clear hHeld
  have aM:=hJ (BX.new aC.out aR.out)
  obtain ⟨cU,cV,cW,cX⟩:=aM.out.c4 0 1 2 3 rfl rfl rfl rfl
  have aV:=hJ (bt aD.out aR.out)
  have aB:=hJ (BX.new aZ.out aV.out)
  have cY:=aB.out.frozen 0
  have cZ:=aB.out.cell 0 rfl
  have dA:=aB.out.frozen 1
  have dB:=aB.out.cell 1 rfl
  have dD:=aB.out.frozen 2
  have dE:=aB.out.cell 2 rfl
  have dG:=aB.out.frozen 3
  have dH:=aB.out.cell 3 rfl
  obtain ⟨x25,bH⟩:=nmz (World.setCell (World.setCell (World.setCell (World.setCell v20 ⟨w.heap.size+1,0,none⟩ (.int .i64 ax)) ⟨w.heap.size+1,1,none⟩ (.int .i64 ay)) ⟨w.heap.size+1,2,none⟩ (.int .i64 bx)) ⟨w.heap.size+1,3,none⟩ (.int .i64 by'))
  have bJ:=hJ (show sto v20 (w.heap.size+1) 0 [.int .i64 ax,.int .i64 ay,.int .i64 bx,.int .i64 by']=x25 from bH)
  have dI:=hJ (show BX 25 x25 (w.heap.size+1) #[.int .i64 ax,.int .i64 ay,.int .i64 bx,.int .i64 by'] by rw [←bJ.out]; exact BX.put aB.out _ _)
  have aW:=hJ (show Below w.heap.size w x25 by rw [←bJ.out]; exact below_sto (bt (bt (bt aY.out aI.out) aJ.out) aR.out) bA.out _ _)
  go_wp2
  clear cU cV cW cX cY cZ dA dB dD dE dG dH bH
  exact bodyPost_ret (results_cell1 rfl _ _ _ _ _ _ _ rfl dI.out Tryz.underlying25 rfl (by kernel_rfl)) rfl ⟨by unfold noV; rw [aG.out,if_neg (Int.not_lt.2 HO.out)] <;> rfl,aW.out⟩
set_option maxRecDepth 100000 in
set_option maxHeartbeats 1600000 in
theorem cvalid_any (ax ay bx by':Int) (w:World) (hv:(vdP (ax,ay)=0∧vdP (bx,by')=0)∧¬ (ax=bx∧ay=by')) :
  Calls Tryz.prog 22 #[.agg #[.int .i64 ax,.int .i64 ay,.int .i64 bx,.int .i64 by']] w fun e w'=>e=.returned (.int .i64 0)∧Below w.heap.size w w':=by
 have HV:=hJ hv
 clear hv
 obtain ⟨x1,aA⟩:=nmz (w.alloc (.cells #[.int .i64 ax,.int .i64 ay,.int .i64 bx,.int .i64 by'] 25))
 have aC:=hJ (show Below w.heap.size w x1 by rw [←aA]; exact ((Below.refl _ _).alloc (Nat.le_refl _) _))
 have aD:=hJ (show BX 25 x1 w.heap.size #[.int .i64 ax,.int .i64 ay,.int .i64 bx,.int .i64 by'] by rw [←aA]; exact (BX.at rfl))
 obtain ⟨aG,aH,aI,aJ⟩:=aD.out.c4 0 1 2 3 rfl rfl rfl rfl
 obtain ⟨x6,aB⟩:=nmz (x1.alloc (.cells #[.int .i64 ax,.int .i64 ay,.int .i64 bx,.int .i64 by'] 25))
 have aK:=hJ (show Below x1.heap.size x1 x6 by rw [←aB]; exact ((Below.refl _ _).alloc (Nat.le_refl _) _))
 have aL:=hJ (show BX 25 x6 x1.heap.size #[.int .i64 ax,.int .i64 ay,.int .i64 bx,.int .i64 by'] by rw [←aB]; exact (BX.at rfl))
 go_enter Tryz.func22,Tryz.ntmps22
 go_wp2_with fail
 clear aA aG aH aI aJ aB
 refine (ferr1_any ax ay bx by' x1.heap.size x6 aL.out HV.out).mono ?_
 rintro e w7 ⟨rfl,hb⟩
 have aM:=hJ hb
 clear hb
 have aO:=hJ (bt (bt aC.out aK.out) aM.out)
 go_wp2
 go_ret
 exact ⟨rfl,aO.out⟩
end Go.Proofs.YtagakcficjcfhaaGreat
