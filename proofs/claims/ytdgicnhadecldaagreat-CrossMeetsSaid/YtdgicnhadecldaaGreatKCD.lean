/- Contracts of package meresmanlaw07: seg, own, same. Conditions: as each statement has them. -/
import Derived.Test.YtdgicnhadecldaaGreatKAE
import Derived.Test.YtdgicnhadecldaaGreatKB2
import Derived.Test.YtdgicnhadecldaaGreatKB5
import Derived.Test.YtdgicnhadecldaaGreatKCA
import Derived.Test.YtdgicnhadecldaaGreatKFD
import Derived.Test.YtdgicnhadecldaaGreatKFI
import Derived.Test.YtdgicnhadecldaaGreatKPF
namespace Go.Proofs.YtdgicnhadecldaaGreat
open Go.RowKit
attribute [local go_sem ↓] Go.wp_at_zero Go.wp_at_succ
set_option linter.unusedVariables false
set_option linter.unusedSimpArgs false
def D1 (d:Int):Int:=max 1 d
theorem d1_pos (d:Int):0 < D1 d:=by unfold D1; omega
theorem d1_wf {d:Int} (h:(Lit.int .i64 d).wf=true):(Lit.int .i64 (D1 d)).wf=true:=max_wf (by decide) h
theorem d1_fr {x d:Int} (h:(Lit.int .i64 x).wf=true) (g:(Lit.int .i64 d).wf=true):Fr (mkP x (D1 d)) (mkQ x (D1 d)):=fr_mk (i64_lim h) (i64_lim (d1_wf g))
def Wf3 (x y d:Int):Prop:=((Lit.int .i64 x).wf=true∧(Lit.int .i64 y).wf=true)∧(Lit.int .i64 d).wf=true
set_option maxRecDepth 100000 in
set_option maxHeartbeats 1600000 in
theorem seg7_any (a b c d:Int) (w:World) :
  Calls Tryz.prog 45 #[.int .i64 a,.int .i64 b,.int .i64 c,.int .i64 d] w fun e w'=>e=.returned (.agg #[.int .i64 a,.int .i64 b,.int .i64 c,.int .i64 d])∧Below w.heap.size w w':=by
 obtain ⟨x1,aA⟩:=nmz (w.alloc (.cells #[.int .i64 a,.int .i64 b,.int .i64 c,.int .i64 d] 25))
 have aB:=hJ (show Below w.heap.size w x1 by rw [←aA]; exact ((Below.refl _ _).alloc (Nat.le_refl _) _))
 have aC:=hJ (show BX 25 x1 w.heap.size #[.int .i64 a,.int .i64 b,.int .i64 c,.int .i64 d] by rw [←aA]; exact (BX.at rfl))
 go_enter Tryz.func45,Tryz.ntmps45
 go_wp2
 clear aA
 exact bodyPost_ret (results_cell_row rfl _ _ _ _ _ _ _ rfl aC.out Tryz.underlying25 rfl (by kernel_rfl)) rfl ⟨rfl,aB.out⟩
set_option maxRecDepth 100000 in
set_option maxHeartbeats 1600000 in
theorem own7_any (X Y D:Int) (w:World) (h:Wf3 X Y D) :
  Calls Tryz.prog 30 #[.agg #[.int .i64 X,.int .i64 Y,.int .i64 D]] w (RetTw (mkP X (D1 D)) (mkQ X (D1 D)) (mkP Y (D1 D)) (mkQ Y (D1 D)) w):=by
 have aC:=hJ h
 have aM:=hJ (show D1 D≠0 by have:=d1_pos D; omega)
 clear h
 obtain ⟨x1,aD⟩:=nmz ((w.alloc (.cells #[.int .i64 X,.int .i64 Y,.int .i64 D] 47)).alloc (.cells #[.bool false,.slice none 0 0,.bool false,.slice none 0 0,.bool false,.slice none 0 0,.bool false,.slice none 0 0] 37))
 have aU:=hJ (show Below w.heap.size w x1 by rw [←aD]; exact (((Below.refl _ _).alloc (Nat.le_refl _) _).alloc (by simp only [World.size_alloc]; omega) _))
 have aI:=hJ (show BX 47 x1 w.heap.size #[.int .i64 X,.int .i64 Y,.int .i64 D] by rw [←aD]; exact ((BX.at rfl).alloc _))
 have aV:=hJ (show BX 37 x1 (w.heap.size+1) #[.bool false,.slice none 0 0,.bool false,.slice none 0 0,.bool false,.slice none 0 0,.bool false,.slice none 0 0] by rw [←aD]; exact (BX.at (by simp only [World.size_alloc])))
 have aW:=hJ (show w.heap.size≤w.heap.size+1 by omega)
 have aX:=aI.out.cell 0 rfl
 have aY:=aI.out.cell 2 rfl
 go_enter Tryz.func30,Tryz.ntmps30
 go_wp2_with fail
 clear aD aX aY
 refine (fof_any X (D1 D) x1 aC.out.1.1 (d1_wf aC.out.2)).mono ?_
 rw [show mkC (D1 D)=0 from if_neg aM.out]
 rintro e w4 ⟨s11,A11,n11,c11,t11,B11,m11,d11,rfl,hr11,hb⟩
 have aO:=hJ hb
 have aZ:=hJ hr11
 clear hb hr11
 obtain ⟨x5,aJ⟩:=nmz (w4.alloc (.cells #[.bool s11,.slice A11 n11 c11,.bool t11,.slice B11 m11 d11] 35))
 have aK:=hJ (show Below w4.heap.size w4 x5 by rw [←aJ]; exact ((Below.refl _ _).alloc (Nat.le_refl _) _))
 have bA:=hJ (show BX 35 x5 w4.heap.size #[.bool s11,.slice A11 n11 c11,.bool t11,.slice B11 m11 d11] by rw [←aJ]; exact (BX.at rfl))
 have aR:=hJ (bt aO.out aK.out)
 have aS:=hJ (BX.new aI.out aR.out)
 have bB:=aS.out.cell 1 rfl
 have bC:=aS.out.cell 2 rfl
 go_wp2_with fail
 clear aJ bB bC
 refine (fof_any Y (D1 D) x5 aC.out.1.2 (d1_wf aC.out.2)).mono ?_
 rw [show mkC (D1 D)=0 from if_neg aM.out]
 rintro e w8 ⟨s12,A12,n12,c12,t12,B12,m12,d12,rfl,hr12,hb⟩
 have aG:=hJ hb
 have bD:=hJ hr12
 clear hb hr12
 obtain ⟨x9,aL⟩:=nmz (w8.alloc (.cells #[.bool s12,.slice A12 n12 c12,.bool t12,.slice B12 m12 d12] 35))
 have aB:=hJ (show Below w8.heap.size w8 x9 by rw [←aL]; exact ((Below.refl _ _).alloc (Nat.le_refl _) _))
 have bE:=hJ (show BX 35 x9 w8.heap.size #[.bool s12,.slice A12 n12 c12,.bool t12,.slice B12 m12 d12] by rw [←aL]; exact (BX.at rfl))
 have bF:=hJ (bt aG.out aB.out)
 have bG:=hJ (BX.new bA.out bF.out)
 obtain ⟨bH,bJ,bK,bL⟩:=bG.out.c4 0 1 2 3 rfl rfl rfl rfl
 obtain ⟨bM,bN,bO,bP⟩:=bE.out.c4 0 1 2 3 rfl rfl rfl rfl
 have bQ:=hJ (bt (bt aR.out aG.out) aB.out)
 have aA:=hJ (BX.new aV.out bQ.out)
 have bR:=aA.out.frozen 0
 have bS:=aA.out.cell 0 rfl
 have bT:=aA.out.frozen 1
 have bU:=aA.out.cell 1 rfl
 have bV:=aA.out.frozen 2
 have bW:=aA.out.cell 2 rfl
 have bX:=aA.out.frozen 3
 have bY:=aA.out.cell 3 rfl
 have bZ:=aA.out.frozen 4
 have cA:=aA.out.cell 4 rfl
 have cB:=aA.out.frozen 5
 have cC:=aA.out.cell 5 rfl
 have cD:=aA.out.frozen 6
 have cE:=aA.out.cell 6 rfl
 have cF:=aA.out.frozen 7
 have cG:=aA.out.cell 7 rfl
 obtain ⟨x18,aT⟩:=nmz (World.setCell (World.setCell (World.setCell (World.setCell (World.setCell (World.setCell (World.setCell (World.setCell x9 ⟨w.heap.size+1,0,none⟩ (.bool s11)) ⟨w.heap.size+1,1,none⟩ (.slice A11 n11 c11)) ⟨w.heap.size+1,2,none⟩ (.bool t11)) ⟨w.heap.size+1,3,none⟩ (.slice B11 m11 d11)) ⟨w.heap.size+1,4,none⟩ (.bool s12)) ⟨w.heap.size+1,5,none⟩ (.slice A12 n12 c12)) ⟨w.heap.size+1,6,none⟩ (.bool t12)) ⟨w.heap.size+1,7,none⟩ (.slice B12 m12 d12))
 have aH:=hJ (show sto x9 (w.heap.size+1) 0 [.bool s11,.slice A11 n11 c11,.bool t11,.slice B11 m11 d11,.bool s12,.slice A12 n12 c12,.bool t12,.slice B12 m12 d12]=x18 from aT)
 have cH:=hJ (show BX 37 x18 (w.heap.size+1) #[.bool s11,.slice A11 n11 c11,.bool t11,.slice B11 m11 d11,.bool s12,.slice A12 n12 c12,.bool t12,.slice B12 m12 d12] by rw [←aH.out]; exact BX.put aA.out _ _)
 have cI:=hJ (show Below w.heap.size w x18 by rw [←aH.out]; exact below_sto (bt (bt (bt (bt aU.out aO.out) aK.out) aG.out) aB.out) aW.out _ _)
 have cJ:=hJ (bt (bt aK.out aG.out) aB.out)
 have cK:=hJ (PF.new aZ.out cJ.out)
 have cL:=hJ (show PF x18 s11 A11 n11 c11 t11 B11 m11 d11 (mkP X (D1 D)) (mkQ X (D1 D)) by rw [←aH.out]; exact PF.sto cK.out aA.out rfl _ _)
 have cM:=hJ (PF.new bD.out aB.out)
 have cN:=hJ (show PF x18 s12 A12 n12 c12 t12 B12 m12 d12 (mkP Y (D1 D)) (mkQ Y (D1 D)) by rw [←aH.out]; exact PF.sto cM.out aA.out rfl _ _)
 go_wp2
 clear aL bH bJ bK bL bM bN bO bP bR bS bT bU bV bW bX bY bZ cA cB cC cD cE cF cG aT
 exact bodyPost_ret (results_cell_row rfl _ _ _ _ _ _ _ rfl cH.out Tryz.underlying37 rfl TP_size) rfl ⟨s11,A11,n11,c11,t11,B11,m11,d11,s12,A12,n12,c12,t12,B12,m12,d12,rfl,cL.out,cN.out,cI.out⟩
set_option maxRecDepth 100000 in
set_option maxHeartbeats 1600000 in
theorem same7_any (kd p0 q0 p1 q1 p2 q2 p3 q3 X Y D Z U E:Int) (s0:Bool) (A0:Option Addr) (n0 c0:Nat) (t0:Bool) (B0:Option Addr) (m0 d0:Nat) (s1:Bool) (A1:Option Addr) (n1 c1:Nat) (t1:Bool) (B1:Option Addr) (m1 d1:Nat) (s2:Bool) (A2:Option Addr) (n2 c2:Nat) (t2:Bool) (B2:Option Addr) (m2 d2:Nat) (s3:Bool) (A3:Option Addr) (n3 c3:Nat) (t3:Bool) (B3:Option Addr) (m3 d3:Nat) (w:World) (h0:PF w s0 A0 n0 c0 t0 B0 m0 d0 p0 q0) (f0:Fr p0 q0) (h1:PF w s1 A1 n1 c1 t1 B1 m1 d1 p1 q1) (f1:Fr p1 q1) (h2:PF w s2 A2 n2 c2 t2 B2 m2 d2 p2 q2) (f2:Fr p2 q2) (h3:PF w s3 A3 n3 c3 t3 B3 m3 d3 p3 q3) (f3:Fr p3 q3) (ha:Wf3 X Y D) (hb:Wf3 Z U E) (hs:pcV p0 q0 p1 q1 (mkP X (D1 D)) (mkQ X (D1 D)) (mkP Y (D1 D)) (mkQ Y (D1 D))=0) (ht:pcV p2 q2 p3 q3 (mkP Z (D1 E)) (mkQ Z (D1 E)) (mkP U (D1 E)) (mkQ U (D1 E))=0) :
  Calls Tryz.prog 15 #[.agg #[.int .i64 kd,.bool s0,.slice A0 n0 c0,.bool t0,.slice B0 m0 d0,.bool s1,.slice A1 n1 c1,.bool t1,.slice B1 m1 d1,.bool s2,.slice A2 n2 c2,.bool t2,.slice B2 m2 d2,.bool s3,.slice A3 n3 c3,.bool t3,.slice B3 m3 d3],.agg #[.int .i64 kd,.int .i64 X,.int .i64 Y,.int .i64 D,.int .i64 Z,.int .i64 U,.int .i64 E]] w fun e w'=>e=.returned (.bool true)∧Below w.heap.size w w':=by
 have aS:=hJ h0
 have aJ:=hJ f0
 have aT:=hJ h1
 have aK:=hJ f1
 have aU:=hJ h2
 have aL:=hJ f2
 have aV:=hJ h3
 have aM:=hJ f3
 have HA:=hJ ha
 have HB:=hJ hb
 have HS:=hJ hs
 have HT:=hJ ht
 clear ha hb hs ht h0 f0 h1 f1 h2 f2 h3 f3
 obtain ⟨x1,aG⟩:=nmz ((w.alloc (.cells #[.int .i64 kd,.bool s0,.slice A0 n0 c0,.bool t0,.slice B0 m0 d0,.bool s1,.slice A1 n1 c1,.bool t1,.slice B1 m1 d1,.bool s2,.slice A2 n2 c2,.bool t2,.slice B2 m2 d2,.bool s3,.slice A3 n3 c3,.bool t3,.slice B3 m3 d3] 39)).alloc (.cells #[.int .i64 kd,.int .i64 X,.int .i64 Y,.int .i64 D,.int .i64 Z,.int .i64 U,.int .i64 E] 49))
 have aC:=hJ (show Below w.heap.size w x1 by rw [←aG]; exact (((Below.refl _ _).alloc (Nat.le_refl _) _).alloc (by simp only [World.size_alloc]; omega) _))
 have aA:=hJ (show BX 39 x1 w.heap.size #[.int .i64 kd,.bool s0,.slice A0 n0 c0,.bool t0,.slice B0 m0 d0,.bool s1,.slice A1 n1 c1,.bool t1,.slice B1 m1 d1,.bool s2,.slice A2 n2 c2,.bool t2,.slice B2 m2 d2,.bool s3,.slice A3 n3 c3,.bool t3,.slice B3 m3 d3] by rw [←aG]; exact ((BX.at rfl).alloc _))
 have aB:=hJ (show BX 49 x1 (w.heap.size+1) #[.int .i64 kd,.int .i64 X,.int .i64 Y,.int .i64 D,.int .i64 Z,.int .i64 U,.int .i64 E] by rw [←aG]; exact (BX.at (by simp only [World.size_alloc])))
 have aD:Hid (∀ w',Below x1.heap.size x1 w'→(fun w':World=>w'.cell? ⟨w.heap.size,0,none⟩=some (.int .i64 kd)∧w'.cell? ⟨w.heap.size+1,0,none⟩=some (.int .i64 kd)∧w'.cell? ⟨w.heap.size,1,none⟩=some (.bool s0)∧w'.cell? ⟨w.heap.size,2,none⟩=some (.slice A0 n0 c0)∧w'.cell? ⟨w.heap.size,3,none⟩=some (.bool t0)∧w'.cell? ⟨w.heap.size,4,none⟩=some (.slice B0 m0 d0)∧w'.cell? ⟨w.heap.size,5,none⟩=some (.bool s1)∧w'.cell? ⟨w.heap.size,6,none⟩=some (.slice A1 n1 c1)∧w'.cell? ⟨w.heap.size,7,none⟩=some (.bool t1)∧w'.cell? ⟨w.heap.size,8,none⟩=some (.slice B1 m1 d1)∧w'.cell? ⟨w.heap.size+1,1,none⟩=some (.int .i64 X)∧w'.cell? ⟨w.heap.size+1,2,none⟩=some (.int .i64 Y)∧w'.cell? ⟨w.heap.size+1,3,none⟩=some (.int .i64 D)∧w'.cell? ⟨w.heap.size,9,none⟩=some (.bool s2)∧w'.cell? ⟨w.heap.size,10,none⟩=some (.slice A2 n2 c2)∧w'.cell? ⟨w.heap.size,11,none⟩=some (.bool t2)∧w'.cell? ⟨w.heap.size,12,none⟩=some (.slice B2 m2 d2)∧w'.cell? ⟨w.heap.size,13,none⟩=some (.bool s3)∧w'.cell? ⟨w.heap.size,14,none⟩=some (.slice A3 n3 c3)∧w'.cell? ⟨w.heap.size,15,none⟩=some (.bool t3)∧w'.cell? ⟨w.heap.size,16,none⟩=some (.slice B3 m3 d3)∧w'.cell? ⟨w.heap.size+1,4,none⟩=some (.int .i64 Z)∧w'.cell? ⟨w.heap.size+1,5,none⟩=some (.int .i64 U)∧w'.cell? ⟨w.heap.size+1,6,none⟩=some (.int .i64 E)∧Below x1.heap.size x1 w') w'):=hJ (fun w' hb=>⟨(BX.new aA.out hb).cell 0 rfl,(BX.new aB.out hb).cell 0 rfl,(BX.new aA.out hb).cell 1 rfl,(BX.new aA.out hb).cell 2 rfl,(BX.new aA.out hb).cell 3 rfl,(BX.new aA.out hb).cell 4 rfl,(BX.new aA.out hb).cell 5 rfl,(BX.new aA.out hb).cell 6 rfl,(BX.new aA.out hb).cell 7 rfl,(BX.new aA.out hb).cell 8 rfl,(BX.new aB.out hb).cell 1 rfl,(BX.new aB.out hb).cell 2 rfl,(BX.new aB.out hb).cell 3 rfl,(BX.new aA.out hb).cell 9 rfl,(BX.new aA.out hb).cell 10 rfl,(BX.new aA.out hb).cell 11 rfl,(BX.new aA.out hb).cell 12 rfl,(BX.new aA.out hb).cell 13 rfl,(BX.new aA.out hb).cell 14 rfl,(BX.new aA.out hb).cell 15 rfl,(BX.new aA.out hb).cell 16 rfl,(BX.new aB.out hb).cell 4 rfl,(BX.new aB.out hb).cell 5 rfl,(BX.new aB.out hb).cell 6 rfl,hb⟩)
 have aW:=hJ (PF.new aS.out aC.out)
 have aX:=hJ (PF.new aT.out aC.out)
 have aY:=hJ (PF.new aU.out aC.out)
 have aZ:=hJ (PF.new aV.out aC.out)
 go_enter Tryz.func15,Tryz.ntmps15
 go_wp2_with fail
 clear aG
 obtain ⟨v2,hv2⟩:=nmz (World.drew x1)
 have bA:=hJ (show Below x1.heap.size x1 v2 by rw [←hv2]; exact (Below.refl _ _).drew)
 refine whd aD hv2 (fun hHeld=>?_)
 clear hv2
 refine tq 0 ?_
 refine tq 1 ?_
 refine tq 2 ?_
 refine tq 3 ?_
 refine tq 4 ?_
 refine tq 5 ?_
 refine tq 6 ?_
 refine tq 7 ?_
 refine tq 8 ?_
 refine tq 9 ?_
 try simp only [PT]
 refine ryy [10] ?_
 refine .cons rfl (fun K hK=>?_) .nil
 go_simp
 go_at_call 30
 refine (own7_any X Y D v2 HA.out).mono ?_
 rintro e v3 ⟨s11,A11,n11,c11,t11,B11,m11,d11,s12,A12,n12,c12,t12,B12,m12,d12,rfl,hr11,hr12,hb⟩
 have bB:=hJ hb
 have bC:=hJ hr11
 have bD:=hJ hr12
 clear hb hr11 hr12
 go_wp2_with fail
 have aH:=hJ (bt bA.out bB.out)
 clear hHeld
 refine hK.out _ _ (aD.out _ aH.out) (fun hHeld=>?_)
 clear hK K
 try simp only [PT]
 refine ryy [11] ?_
 refine .cons rfl (fun K hK=>?_) .nil
 go_simp
 go_at_call 34
 refine (ptcompare_any p0 q0 p1 q1 (mkP X (D1 D)) (mkQ X (D1 D)) (mkP Y (D1 D)) (mkQ Y (D1 D)) s0 A0 n0 c0 t0 B0 m0 d0 s1 A1 n1 c1 t1 B1 m1 d1 s11 A11 n11 c11 t11 B11 m11 d11 s12 A12 n12 c12 t12 B12 m12 d12 v3 (PF.new aW.out aH.out) (PF.new aX.out aH.out) bC.out bD.out ⟨⟨aJ.out.1.1,aJ.out.2.1,aJ.out.2.2⟩,⟨aK.out.1.1,aK.out.2.1,aK.out.2.2⟩,⟨(d1_fr HA.out.1.1 HA.out.2).1.1,(d1_fr HA.out.1.1 HA.out.2).2.1,(d1_fr HA.out.1.1 HA.out.2).2.2⟩,⟨(d1_fr HA.out.1.2 HA.out.2).1.1,(d1_fr HA.out.1.2 HA.out.2).2.1,(d1_fr HA.out.1.2 HA.out.2).2.2⟩⟩).mono ?_
 rw [HS.out]
 rintro e v4 ⟨rfl,hb⟩
 have bE:=hJ hb
 clear hb
 go_wp2_with fail
 have aO:=hJ (bt aH.out bE.out)
 clear hHeld
 refine hK.out _ _ (aD.out _ aO.out) (fun hHeld=>?_)
 clear hK K
 refine tq 12 ?_
 refine tq 13 ?_
 refine tq 14 ?_
 refine tq 15 ?_
 refine tq 16 ?_
 refine tq 17 ?_
 refine tq 18 ?_
 try simp only [PT]
 refine ryy [19] ?_
 refine .cons rfl (fun K hK=>?_) .nil
 go_simp
 go_at_call 30
 refine (own7_any Z U E v4 HB.out).mono ?_
 rintro e v5 ⟨s13,A13,n13,c13,t13,B13,m13,d13,s14,A14,n14,c14,t14,B14,m14,d14,rfl,hr13,hr14,hb⟩
 have bF:=hJ hb
 have bG:=hJ hr13
 have bH:=hJ hr14
 clear hb hr13 hr14
 go_wp2_with fail
 have aI:=hJ (bt aO.out bF.out)
 clear hHeld
 refine hK.out _ _ (aD.out _ aI.out) (fun hHeld=>?_)
 clear hK K
 try simp only [PT]
 refine ryy [20] ?_
 refine .cons rfl (fun K hK=>?_) .nil
 go_simp
 go_at_call 34
 refine (ptcompare_any p2 q2 p3 q3 (mkP Z (D1 E)) (mkQ Z (D1 E)) (mkP U (D1 E)) (mkQ U (D1 E)) s2 A2 n2 c2 t2 B2 m2 d2 s3 A3 n3 c3 t3 B3 m3 d3 s13 A13 n13 c13 t13 B13 m13 d13 s14 A14 n14 c14 t14 B14 m14 d14 v5 (PF.new aY.out aI.out) (PF.new aZ.out aI.out) bG.out bH.out ⟨⟨aL.out.1.1,aL.out.2.1,aL.out.2.2⟩,⟨aM.out.1.1,aM.out.2.1,aM.out.2.2⟩,⟨(d1_fr HB.out.1.1 HB.out.2).1.1,(d1_fr HB.out.1.1 HB.out.2).2.1,(d1_fr HB.out.1.1 HB.out.2).2.2⟩,⟨(d1_fr HB.out.1.2 HB.out.2).1.1,(d1_fr HB.out.1.2 HB.out.2).2.1,(d1_fr HB.out.1.2 HB.out.2).2.2⟩⟩).mono ?_
 rw [HT.out]
 rintro e v6 ⟨rfl,hb⟩
 have bJ:=hJ hb
 clear hb
 go_wp2_with fail
 have aR:=hJ (bt aI.out bJ.out)
 clear hHeld
 refine hK.out _ _ (aD.out _ aR.out) (fun hHeld=>?_)
 clear hK K
 refine tq 21 ?_
 refine tq 22 ?_
 refine tq 23 ?_
 try simp only [PT]
 refine wpAnyH_done (by kernel_rfl) ?_ _
 clear hHeld
 have bK:=hJ (bt aC.out aR.out)
 go_wp2
 go_ret
 exact ⟨rfl,bK.out⟩
end Go.Proofs.YtdgicnhadecldaaGreat
