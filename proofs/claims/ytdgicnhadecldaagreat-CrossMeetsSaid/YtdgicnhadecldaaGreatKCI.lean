/- The examples of the section. -/
import Derived.Test.YtdgicnhadecldaaGreatKAE
import Derived.Test.YtdgicnhadecldaaGreatKB2
import Derived.Test.YtdgicnhadecldaaGreatKB5
import Derived.Test.YtdgicnhadecldaaGreatKCC
import Derived.Test.YtdgicnhadecldaaGreatKCD
import Derived.Test.YtdgicnhadecldaaGreatKCM
import Derived.Test.YtdgicnhadecldaaGreatKFD
import Derived.Test.YtdgicnhadecldaaGreatKFI
import Derived.Test.YtdgicnhadecldaaGreatKRS
namespace Go.Proofs.YtdgicnhadecldaaGreat
open Go.RowKit
attribute [local go_sem ↓] Go.wp_at_zero Go.wp_at_succ
set_option linter.unusedVariables false
set_option linter.unusedSimpArgs false
theorem fr_l {p q:Int} (hp:(Lit.int .i64 p).wf=true) (hq:(Lit.int .i64 q).wf=true) (e:mkP p q=p∧mkQ p q=q):Fr p q:=by
 have:=fr_mk (i64_lim hp) (i64_lim hq)
 rwa [e.1,e.2] at this
theorem lv_1:cutV 0 0 2 2 0 1 1 0=(1,(1,2,1,2),(0,1,0,1)):=by kernel_rfl
theorem lv_2:cutV 0 0 4 0 6 0 2 0=(2,(2,1,0,1),(4,1,0,1)):=by kernel_rfl
theorem lv_3:cutV 0 0 2 0 2 0 4 0=(1,(2,1,0,1),(0,1,0,1)):=by kernel_rfl
theorem lf_1:Fr 1 2:=fr_l rfl rfl ⟨by kernel_rfl,by kernel_rfl⟩
theorem lf_z {x:Int} (h:(Lit.int .i64 x).wf=true):Fr x 1:=int_fr h
set_option maxRecDepth 100000 in
set_option maxHeartbeats 12800000 in
theorem lives7_any (w:World) :
  Calls Tryz.prog 18 #[] w fun e w'=>e=.returned (.bool true)∧Below w.heap.size w w':=by
 go_enter Tryz.func18,Tryz.ntmps18
 go_wp2_with fail
 refine (seg7_any 0 0 2 2 w).mono ?_
 rintro e w1 ⟨rfl,hb⟩
 have bE:=hJ hb
 clear hb
 go_wp2_with fail
 refine (seg7_any 0 1 1 0 w1).mono ?_
 rintro e w2 ⟨rfl,hb⟩
 have bF:=hJ hb
 clear hb
 go_wp2_with fail
 refine (Meet_any 0 0 2 2 0 1 1 0 1 1 2 1 2 0 1 0 1 w2 ⟨⟨⟨by decide,by decide⟩,by decide⟩,⟨⟨by decide,by decide⟩,by decide⟩⟩ lv_1).mono ?_
 rintro e w3 ⟨s11,A11,n11,c11,t11,B11,m11,d11,s12,A12,n12,c12,t12,B12,m12,d12,s13,A13,n13,c13,t13,B13,m13,d13,s14,A14,n14,c14,t14,B14,m14,d14,rfl,hr11,hr12,hr13,hr14,hb⟩
 have bG:=hJ hb
 have bW:=hJ hr11
 have bX:=hJ hr12
 have bY:=hJ hr13
 have bZ:=hJ hr14
 clear hb hr11 hr12 hr13 hr14
 obtain ⟨x4,aS⟩:=nmz (w3.alloc (.cells #[.int .i64 0,.bool false,.slice none 0 0,.bool false,.slice none 0 0,.bool false,.slice none 0 0,.bool false,.slice none 0 0,.bool false,.slice none 0 0,.bool false,.slice none 0 0,.bool false,.slice none 0 0,.bool false,.slice none 0 0] 39))
 have bH:=hJ (show Below w3.heap.size w3 x4 by rw [←aS]; exact ((Below.refl _ _).alloc (Nat.le_refl _) _))
 have bJ:=hJ (show BX 39 x4 w3.heap.size #[.int .i64 0,.bool false,.slice none 0 0,.bool false,.slice none 0 0,.bool false,.slice none 0 0,.bool false,.slice none 0 0,.bool false,.slice none 0 0,.bool false,.slice none 0 0,.bool false,.slice none 0 0,.bool false,.slice none 0 0] by rw [←aS]; exact (BX.at rfl))
 have bK:=hJ (show w3.heap.size≤w3.heap.size by omega)
 obtain ⟨x5,bL⟩:=nmz (sto x4 w3.heap.size 0 [.int .i64 1,.bool s11,.slice A11 n11 c11,.bool t11,.slice B11 m11 d11,.bool s12,.slice A12 n12 c12,.bool t12,.slice B12 m12 d12,.bool s13,.slice A13 n13 c13,.bool t13,.slice B13 m13 d13,.bool s14,.slice A14 n14 c14,.bool t14,.slice B14 m14 d14])
 have aT:=hJ bL
 have cA:=hJ (show BX 39 x5 w3.heap.size #[.int .i64 1,.bool s11,.slice A11 n11 c11,.bool t11,.slice B11 m11 d11,.bool s12,.slice A12 n12 c12,.bool t12,.slice B12 m12 d12,.bool s13,.slice A13 n13 c13,.bool t13,.slice B13 m13 d13,.bool s14,.slice A14 n14 c14,.bool t14,.slice B14 m14 d14] by rw [←aT.out]; exact BX.put_all bJ.out [.int .i64 1,.bool s11,.slice A11 n11 c11,.bool t11,.slice B11 m11 d11,.bool s12,.slice A12 n12 c12,.bool t12,.slice B12 m12 d12,.bool s13,.slice A13 n13 c13,.bool t13,.slice B13 m13 d13,.bool s14,.slice A14 n14 c14,.bool t14,.slice B14 m14 d14] (by simp))
 go_wp2_with (refine wpList_st 39 (.tmp 1) (.tmp 12) rfl ?_; (try rw [aS]); refine wpList_store_sto w3.heap.size 0 [.int .i64 1,.bool s11,.slice A11 n11 c11,.bool t11,.slice B11 m11 d11,.bool s12,.slice A12 n12 c12,.bool t12,.slice B12 m12 d12,.bool s13,.slice A13 n13 c13,.bool t13,.slice B13 m13 d13,.bool s14,.slice A14 n14 c14,.bool t14,.slice B14 m14 d14] bJ.out (by simp) aT.out rfl _ _ _ rfl rfl rfl (by kernel_rfl) rfl ?_)
 clear aS bL
 refine (seg7_any 0 0 4 0 x5).mono ?_
 rintro e w6 ⟨rfl,hb⟩
 have aH:=hJ hb
 clear hb
 go_wp2_with fail
 refine (seg7_any 6 0 2 0 w6).mono ?_
 rintro e w7 ⟨rfl,hb⟩
 have aI:=hJ hb
 clear hb
 go_wp2_with fail
 refine (Meet_any 0 0 4 0 6 0 2 0 2 2 1 0 1 4 1 0 1 w7 ⟨⟨⟨by decide,by decide⟩,by decide⟩,⟨⟨by decide,by decide⟩,by decide⟩⟩ lv_2).mono ?_
 rintro e w8 ⟨s15,A15,n15,c15,t15,B15,m15,d15,s16,A16,n16,c16,t16,B16,m16,d16,s17,A17,n17,c17,t17,B17,m17,d17,s18,A18,n18,c18,t18,B18,m18,d18,rfl,hr15,hr16,hr17,hr18,hb⟩
 have aJ:=hJ hb
 have cB:=hJ hr15
 have cC:=hJ hr16
 have cD:=hJ hr17
 have cE:=hJ hr18
 clear hb hr15 hr16 hr17 hr18
 obtain ⟨x9,aU⟩:=nmz (w8.alloc (.cells #[.int .i64 0,.bool false,.slice none 0 0,.bool false,.slice none 0 0,.bool false,.slice none 0 0,.bool false,.slice none 0 0,.bool false,.slice none 0 0,.bool false,.slice none 0 0,.bool false,.slice none 0 0,.bool false,.slice none 0 0] 39))
 have aV:=hJ (show Below w8.heap.size w8 x9 by rw [←aU]; exact ((Below.refl _ _).alloc (Nat.le_refl _) _))
 have bM:=hJ (show BX 39 x9 w8.heap.size #[.int .i64 0,.bool false,.slice none 0 0,.bool false,.slice none 0 0,.bool false,.slice none 0 0,.bool false,.slice none 0 0,.bool false,.slice none 0 0,.bool false,.slice none 0 0,.bool false,.slice none 0 0,.bool false,.slice none 0 0] by rw [←aU]; exact (BX.at rfl))
 have aW:=hJ (show w8.heap.size≤w8.heap.size by omega)
 obtain ⟨x10,bN⟩:=nmz (sto x9 w8.heap.size 0 [.int .i64 2,.bool s15,.slice A15 n15 c15,.bool t15,.slice B15 m15 d15,.bool s16,.slice A16 n16 c16,.bool t16,.slice B16 m16 d16,.bool s17,.slice A17 n17 c17,.bool t17,.slice B17 m17 d17,.bool s18,.slice A18 n18 c18,.bool t18,.slice B18 m18 d18])
 have aK:=hJ bN
 have cF:=hJ (show BX 39 x10 w8.heap.size #[.int .i64 2,.bool s15,.slice A15 n15 c15,.bool t15,.slice B15 m15 d15,.bool s16,.slice A16 n16 c16,.bool t16,.slice B16 m16 d16,.bool s17,.slice A17 n17 c17,.bool t17,.slice B17 m17 d17,.bool s18,.slice A18 n18 c18,.bool t18,.slice B18 m18 d18] by rw [←aK.out]; exact BX.put_all bM.out [.int .i64 2,.bool s15,.slice A15 n15 c15,.bool t15,.slice B15 m15 d15,.bool s16,.slice A16 n16 c16,.bool t16,.slice B16 m16 d16,.bool s17,.slice A17 n17 c17,.bool t17,.slice B17 m17 d17,.bool s18,.slice A18 n18 c18,.bool t18,.slice B18 m18 d18] (by simp))
 go_wp2_with (refine wpList_st 39 (.tmp 3) (.tmp 18) rfl ?_; (try rw [aU]); refine wpList_store_sto w8.heap.size 0 [.int .i64 2,.bool s15,.slice A15 n15 c15,.bool t15,.slice B15 m15 d15,.bool s16,.slice A16 n16 c16,.bool t16,.slice B16 m16 d16,.bool s17,.slice A17 n17 c17,.bool t17,.slice B17 m17 d17,.bool s18,.slice A18 n18 c18,.bool t18,.slice B18 m18 d18] bM.out (by simp) aK.out rfl _ _ _ rfl rfl rfl (by kernel_rfl) rfl ?_)
 clear aU bN
 refine (seg7_any 0 0 2 0 x10).mono ?_
 rintro e w11 ⟨rfl,hb⟩
 have aA:=hJ hb
 clear hb
 go_wp2_with fail
 refine (seg7_any 2 0 4 0 w11).mono ?_
 rintro e w12 ⟨rfl,hb⟩
 have aB:=hJ hb
 clear hb
 go_wp2_with fail
 refine (Meet_any 0 0 2 0 2 0 4 0 1 2 1 0 1 0 1 0 1 w12 ⟨⟨⟨by decide,by decide⟩,by decide⟩,⟨⟨by decide,by decide⟩,by decide⟩⟩ lv_3).mono ?_
 rintro e w13 ⟨s19,A19,n19,c19,t19,B19,m19,d19,s20,A20,n20,c20,t20,B20,m20,d20,s21,A21,n21,c21,t21,B21,m21,d21,s22,A22,n22,c22,t22,B22,m22,d22,rfl,hr19,hr20,hr21,hr22,hb⟩
 have aC:=hJ hb
 have cG:=hJ hr19
 have cH:=hJ hr20
 have cI:=hJ hr21
 have cJ:=hJ hr22
 clear hb hr19 hr20 hr21 hr22
 obtain ⟨x14,aR⟩:=nmz (w13.alloc (.cells #[.int .i64 0,.bool false,.slice none 0 0,.bool false,.slice none 0 0,.bool false,.slice none 0 0,.bool false,.slice none 0 0,.bool false,.slice none 0 0,.bool false,.slice none 0 0,.bool false,.slice none 0 0,.bool false,.slice none 0 0] 39))
 have aL:=hJ (show Below w13.heap.size w13 x14 by rw [←aR]; exact ((Below.refl _ _).alloc (Nat.le_refl _) _))
 have bO:=hJ (show BX 39 x14 w13.heap.size #[.int .i64 0,.bool false,.slice none 0 0,.bool false,.slice none 0 0,.bool false,.slice none 0 0,.bool false,.slice none 0 0,.bool false,.slice none 0 0,.bool false,.slice none 0 0,.bool false,.slice none 0 0,.bool false,.slice none 0 0] by rw [←aR]; exact (BX.at rfl))
 have aM:=hJ (show w13.heap.size≤w13.heap.size by omega)
 obtain ⟨x15,bP⟩:=nmz (sto x14 w13.heap.size 0 [.int .i64 1,.bool s19,.slice A19 n19 c19,.bool t19,.slice B19 m19 d19,.bool s20,.slice A20 n20 c20,.bool t20,.slice B20 m20 d20,.bool s21,.slice A21 n21 c21,.bool t21,.slice B21 m21 d21,.bool s22,.slice A22 n22 c22,.bool t22,.slice B22 m22 d22])
 have aD:=hJ bP
 have cK:=hJ (show BX 39 x15 w13.heap.size #[.int .i64 1,.bool s19,.slice A19 n19 c19,.bool t19,.slice B19 m19 d19,.bool s20,.slice A20 n20 c20,.bool t20,.slice B20 m20 d20,.bool s21,.slice A21 n21 c21,.bool t21,.slice B21 m21 d21,.bool s22,.slice A22 n22 c22,.bool t22,.slice B22 m22 d22] by rw [←aD.out]; exact BX.put_all bO.out [.int .i64 1,.bool s19,.slice A19 n19 c19,.bool t19,.slice B19 m19 d19,.bool s20,.slice A20 n20 c20,.bool t20,.slice B20 m20 d20,.bool s21,.slice A21 n21 c21,.bool t21,.slice B21 m21 d21,.bool s22,.slice A22 n22 c22,.bool t22,.slice B22 m22 d22] (by simp))
 obtain ⟨x16,aX⟩:=nmz (x15.alloc (.cells #[.int .i64 2,.int .i64 0,.int .i64 1] 47))
 have aG:=hJ (show Below x15.heap.size x15 x16 by rw [←aX]; exact ((Below.refl _ _).alloc (Nat.le_refl _) _))
 have cL:=hJ (show BX 47 x16 x15.heap.size #[.int .i64 2,.int .i64 0,.int .i64 1] by rw [←aX]; exact (BX.at rfl))
 have cM:=hJ (bt (bt aH.out aI.out) aJ.out)
 have bQ:=hJ (show Below x5.heap.size x5 x10 by rw [←aK.out]; exact below_sto (bt (bt (bt aH.out aI.out) aJ.out) aV.out) (Nat.le_trans (cM.out).size aW.out) _ _)
 have cN:=hJ (bt (bt (bt bQ.out aA.out) aB.out) aC.out)
 have cO:=hJ (show Below x5.heap.size x5 x15 by rw [←aD.out]; exact below_sto (bt (bt (bt (bt bQ.out aA.out) aB.out) aC.out) aL.out) (Nat.le_trans (cN.out).size aM.out) _ _)
 have cP:=hJ (bt cO.out aG.out)
 have cQ:=hJ (BX.new cA.out cP.out)
 have bR:=hJ (show Below w3.heap.size w3 x5 by rw [←aT.out]; exact below_sto bH.out bK.out _ _)
 have cR:=hJ (bt (bt (bt bR.out aH.out) aI.out) aJ.out)
 have bS:=hJ (show Below w3.heap.size w3 x10 by rw [←aK.out]; exact below_sto (bt (bt (bt (bt bR.out aH.out) aI.out) aJ.out) aV.out) (Nat.le_trans (cR.out).size aW.out) _ _)
 have cS:=hJ (bt (bt (bt bS.out aA.out) aB.out) aC.out)
 have cT:=hJ (show Below w3.heap.size w3 x15 by rw [←aD.out]; exact below_sto (bt (bt (bt (bt bS.out aA.out) aB.out) aC.out) aL.out) (Nat.le_trans (cS.out).size aM.out) _ _)
 have aY:=hJ (bt cT.out aG.out)
 have cU:=hJ (PF.new bW.out aY.out)
 have cV:=hJ (PF.new bX.out aY.out)
 have cW:=hJ (PF.new bY.out aY.out)
 have cX:=hJ (PF.new bZ.out aY.out)
 go_wp2_with (first | (refine wpList_st 39 (.tmp 5) (.tmp 24) rfl ?_; (try rw [aR]); refine wpList_store_sto w13.heap.size 0 [.int .i64 1,.bool s19,.slice A19 n19 c19,.bool t19,.slice B19 m19 d19,.bool s20,.slice A20 n20 c20,.bool t20,.slice B20 m20 d20,.bool s21,.slice A21 n21 c21,.bool t21,.slice B21 m21 d21,.bool s22,.slice A22 n22 c22,.bool t22,.slice B22 m22 d22] bO.out (by simp) aD.out rfl _ _ _ rfl rfl rfl (by kernel_rfl) rfl ?_) | (refine wpList_ld 39 (.tmp 1) rfl ?_; (try rw [aR]); (try rw [aX]); refine wpList_load_want (by first | rfl | kernel_rfl) 39 _ rfl w3.heap.size rfl 39 #[.int .i64 1,.bool s11,.slice A11 n11 c11,.bool t11,.slice B11 m11 d11,.bool s12,.slice A12 n12 c12,.bool t12,.slice B12 m12 d12,.bool s13,.slice A13 n13 c13,.bool t13,.slice B13 m13 d13,.bool s14,.slice A14 n14 c14,.bool t14,.slice B14 m14 d14] (0,0) _ cQ.out Tryz.underlying39 rfl (by kernel_rfl) ?_))
 clear aR bP aX
 refine (same7_any 1 1 2 1 2 0 1 0 1 1 1 2 0 0 0 s11 A11 n11 c11 t11 B11 m11 d11 s12 A12 n12 c12 t12 B12 m12 d12 s13 A13 n13 c13 t13 B13 m13 d13 s14 A14 n14 c14 t14 B14 m14 d14 x16 cU.out lf_1 cV.out lf_1 cW.out (lf_z rfl) cX.out (lf_z rfl) ⟨⟨rfl,rfl⟩,rfl⟩ ⟨⟨rfl,rfl⟩,rfl⟩ (by kernel_rfl) (by kernel_rfl)).mono ?_
 rintro e w17 ⟨rfl,hb⟩
 have aO:=hJ hb
 clear hb
 have cY:=hJ (bt (bt aA.out aB.out) aC.out)
 have cZ:=hJ (show Below x10.heap.size x10 x15 by rw [←aD.out]; exact below_sto (bt (bt (bt aA.out aB.out) aC.out) aL.out) (Nat.le_trans (cY.out).size aM.out) _ _)
 have dA:=hJ (bt (bt cZ.out aG.out) aO.out)
 have dB:=hJ (BX.new cF.out dA.out)
 have aZ:=hJ (BX.new cL.out aO.out)
 have dD:=aZ.out.cell 0 rfl
 have dE:=aZ.out.cell 1 rfl
 have dG:=aZ.out.cell 2 rfl
 have bT:=hJ (show Below w8.heap.size w8 x10 by rw [←aK.out]; exact below_sto aV.out aW.out _ _)
 have dH:=hJ (bt (bt (bt bT.out aA.out) aB.out) aC.out)
 have dI:=hJ (show Below w8.heap.size w8 x15 by rw [←aD.out]; exact below_sto (bt (bt (bt (bt bT.out aA.out) aB.out) aC.out) aL.out) (Nat.le_trans (dH.out).size aM.out) _ _)
 have bA:=hJ (bt (bt dI.out aG.out) aO.out)
 have dJ:=hJ (PF.new cB.out bA.out)
 have dK:=hJ (PF.new cC.out bA.out)
 have dL:=hJ (PF.new cD.out bA.out)
 have dM:=hJ (PF.new cE.out bA.out)
 go_wp2_with (refine wpList_ld 39 (.tmp 3) rfl ?_; refine wpList_load_want (by first | rfl | kernel_rfl) 39 _ rfl w8.heap.size rfl 39 #[.int .i64 2,.bool s15,.slice A15 n15 c15,.bool t15,.slice B15 m15 d15,.bool s16,.slice A16 n16 c16,.bool t16,.slice B16 m16 d16,.bool s17,.slice A17 n17 c17,.bool t17,.slice B17 m17 d17,.bool s18,.slice A18 n18 c18,.bool t18,.slice B18 m18 d18] (0,0) _ dB.out Tryz.underlying39 rfl (by kernel_rfl) ?_)
 clear dD dE dG
 refine (same7_any 2 2 1 0 1 4 1 0 1 2 0 1 4 0 1 s15 A15 n15 c15 t15 B15 m15 d15 s16 A16 n16 c16 t16 B16 m16 d16 s17 A17 n17 c17 t17 B17 m17 d17 s18 A18 n18 c18 t18 B18 m18 d18 w17 dJ.out (lf_z rfl) dK.out (lf_z rfl) dL.out (lf_z rfl) dM.out (lf_z rfl) ⟨⟨rfl,rfl⟩,rfl⟩ ⟨⟨rfl,rfl⟩,rfl⟩ (by kernel_rfl) (by kernel_rfl)).mono ?_
 rintro e w21 ⟨rfl,hb⟩
 have bB:=hJ hb
 clear hb
 have dN:=hJ (bt (bt aG.out aO.out) bB.out)
 have dO:=hJ (BX.new cK.out dN.out)
 have bD:=hJ (BX.new aZ.out bB.out)
 have dP:=bD.out.cell 0 rfl
 have dQ:=bD.out.cell 1 rfl
 have dR:=bD.out.cell 2 rfl
 have dS:=hJ (show Below w13.heap.size w13 x15 by rw [←aD.out]; exact below_sto aL.out aM.out _ _)
 have bC:=hJ (bt (bt (bt dS.out aG.out) aO.out) bB.out)
 have dT:=hJ (PF.new cG.out bC.out)
 have dU:=hJ (PF.new cH.out bC.out)
 have dW:=hJ (PF.new cI.out bC.out)
 have dX:=hJ (PF.new cJ.out bC.out)
 go_wp2_with (refine wpList_ld 39 (.tmp 5) rfl ?_; refine wpList_load_want (by first | rfl | kernel_rfl) 39 _ rfl w13.heap.size rfl 39 #[.int .i64 1,.bool s19,.slice A19 n19 c19,.bool t19,.slice B19 m19 d19,.bool s20,.slice A20 n20 c20,.bool t20,.slice B20 m20 d20,.bool s21,.slice A21 n21 c21,.bool t21,.slice B21 m21 d21,.bool s22,.slice A22 n22 c22,.bool t22,.slice B22 m22 d22] (0,0) _ dO.out Tryz.underlying39 rfl (by kernel_rfl) ?_)
 clear dP dQ dR
 refine (same7_any 1 2 1 0 1 0 1 0 1 2 0 1 0 0 0 s19 A19 n19 c19 t19 B19 m19 d19 s20 A20 n20 c20 t20 B20 m20 d20 s21 A21 n21 c21 t21 B21 m21 d21 s22 A22 n22 c22 t22 B22 m22 d22 w21 dT.out (lf_z rfl) dU.out (lf_z rfl) dW.out (lf_z rfl) dX.out (lf_z rfl) ⟨⟨rfl,rfl⟩,rfl⟩ ⟨⟨rfl,rfl⟩,rfl⟩ (by kernel_rfl) (by kernel_rfl)).mono ?_
 rintro e w25 ⟨rfl,hb⟩
 have dY:=hJ hb
 clear hb
 have dZ:=hJ (bt (bt bE.out bF.out) bG.out)
 have bU:=hJ (show Below w.heap.size w x5 by rw [←aT.out]; exact below_sto (bt (bt (bt bE.out bF.out) bG.out) bH.out) (Nat.le_trans (dZ.out).size bK.out) _ _)
 have eA:=hJ (bt (bt (bt bU.out aH.out) aI.out) aJ.out)
 have bV:=hJ (show Below w.heap.size w x10 by rw [←aK.out]; exact below_sto (bt (bt (bt (bt bU.out aH.out) aI.out) aJ.out) aV.out) (Nat.le_trans (eA.out).size aW.out) _ _)
 have eB:=hJ (bt (bt (bt bV.out aA.out) aB.out) aC.out)
 have eC:=hJ (show Below w.heap.size w x15 by rw [←aD.out]; exact below_sto (bt (bt (bt (bt bV.out aA.out) aB.out) aC.out) aL.out) (Nat.le_trans (eB.out).size aM.out) _ _)
 have eD:=hJ (bt (bt (bt (bt eC.out aG.out) aO.out) bB.out) dY.out)
 go_wp2
 go_ret
 exact ⟨rfl,eD.out⟩
end Go.Proofs.YtdgicnhadecldaaGreat
