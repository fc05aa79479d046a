/- The walk of the law ExactTriangles. -/
import Derived.Test.YteggneaefggbmaaGreatEL
import Derived.Test.YteggneaefggbmaaGreatTR
import Derived.Laws.BytesArg
namespace Go.Proofs.YteggneaefggbmaaGreat
set_option maxRecDepth 100000
set_option maxHeartbeats 12800000
open Go.RowKit
attribute [local go_sem ↓] Go.wp_at_zero Go.wp_at_succ
set_option linter.unusedVariables false
set_option linter.unusedSimpArgs false
theorem pz_mid {ax ay da bx by' db:Int} (ha:Pq ax ay da) (hb:Pq bx by' db):Pz (ax*db+bx*da) (ay*db+by'*da) (2*(da*db)):=by
 obtain ⟨⟨a1,a2⟩,a3⟩:=pq_nk ha
 obtain ⟨⟨b1,b2⟩,b3⟩:=pq_nk hb
 have c1:=nk_add (nk_mul a1 b3) (nk_mul b1 a3)
 have c2:=nk_add (nk_mul a2 b3) (nk_mul b2 a3)
 have c3:=nk_mul a3 b3
 have hp:=Int.mul_pos ha.1.1 hb.1.1
 unfold Nk at c1 c2 c3
 unfold Pz Nk
 omega
theorem exactTriangles_walk (A:Option Addr) (ln c:Nat) (l:List Int) (w:World) (hg:Got w (.slice A ln c) l) :
  Calls Tryz.prog 7 #[.slice A ln c] w fun e w'=>e=.returned (.bool true)∧Below w.heap.size w w':=by
 have HG:=hJ hg
 clear hg
 go_enter Tryz.func7,Tryz.ntmps7
 go_wp2_with fail
 refine (points2_any A ln c l w HG.out).mono ?_
 rintro e w1 ⟨g,cap,xs,ys,ds,rfl,ho,hn,hb⟩
 have dN:=hJ hb
 have bV:=hJ ho
 clear hb ho
 have HN:=hJ hn.1
 clear hn
 have dO:=hJ (OwnR.lt bV.out)
 go_wp2_with fail
 refine (four2_any xs ys ds g cap w.heap.size w1 bV.out dO.out HN.out).mono ?_
 rintro e w2 ⟨gq,cpq,U,rfl,ho,hl,hf,hb⟩
 have cR:=hJ hb
 have dP:=hJ ho
 have dQ:=hJ hf
 clear hb ho hf
 clear hl
 obtain ⟨wt,hwt⟩:=nmz (trV (xs 0) (ys 0) (ds 0) (xs 1) (ys 1) (ds 1) (xs 2) (ys 2) (ds 2) (xs 3) (ys 3) (ds 3))
 have cS:=hJ hwt
 clear hwt
 have aI:=hJ (OwnR.new bV.out cR.out)
 have cT:Hid (∀ w',Below w2.heap.size w2 w'→(fun w':World=>w'.cell? ⟨g,0,none⟩=some (.int .i64 (xs 0))∧w'.cell? ⟨g,1,none⟩=some (.int .i64 (ys 0))∧w'.cell? ⟨g,2,none⟩=some (.int .i64 (ds 0))∧w'.cell? ⟨g,3,none⟩=some (.int .i64 (xs 1))∧w'.cell? ⟨g,4,none⟩=some (.int .i64 (ys 1))∧w'.cell? ⟨g,5,none⟩=some (.int .i64 (ds 1))∧w'.cell? ⟨g,6,none⟩=some (.int .i64 (xs 2))∧w'.cell? ⟨g,7,none⟩=some (.int .i64 (ys 2))∧w'.cell? ⟨g,8,none⟩=some (.int .i64 (ds 2))∧w'.cell? ⟨g,9,none⟩=some (.int .i64 (xs 3))∧w'.cell? ⟨g,10,none⟩=some (.int .i64 (ys 3))∧w'.cell? ⟨g,11,none⟩=some (.int .i64 (ds 3))∧Below w2.heap.size w2 w') w'):=hJ (fun w' hb=>⟨(OwnR.new aI.out hb).at 0 rfl,(OwnR.new aI.out hb).at 1 rfl,(OwnR.new aI.out hb).at 2 rfl,(OwnR.new aI.out hb).at 3 rfl,(OwnR.new aI.out hb).at 4 rfl,(OwnR.new aI.out hb).at 5 rfl,(OwnR.new aI.out hb).at 6 rfl,(OwnR.new aI.out hb).at 7 rfl,(OwnR.new aI.out hb).at 8 rfl,(OwnR.new aI.out hb).at 9 rfl,(OwnR.new aI.out hb).at 10 rfl,(OwnR.new aI.out hb).at 11 rfl,hb⟩)
 go_wp2_with fail
 obtain ⟨v3,hv3⟩:=nmz (World.drew w2)
 have dR:=hJ (show Below w2.heap.size w2 v3 by rw [←hv3]; exact (Below.refl _ _).drew)
 refine whd cT hv3 (fun hHeld=>?_)
 clear hv3
 refine tq 0 ?_
 refine tq 1 ?_
 refine tq 2 ?_
 refine tq 3 ?_
 refine tq 4 ?_
 refine tq 5 ?_
 refine tq 6 ?_
 refine tq 7 ?_
 refine tq 8 ?_
 refine tq 9 ?_
 refine tq 10 ?_
 refine tq 11 ?_
 try simp only [PT]
 refine ryy [12] ?_
 refine .cons rfl (fun K hK=>?_) .nil
 go_simp
 go_at_call 49
 refine (rtriangle_any (xs 0) (ys 0) (ds 0) (xs 1) (ys 1) (ds 1) (xs 2) (ys 2) (ds 2) (xs 3) (ys 3) (ds 3) v3 (HN.out 0 (by decide)) (HN.out 1 (by decide)) (HN.out 2 (by decide)) (HN.out 3 (by decide))).mono ?_
 rw [cS.out]
 rintro e v4 ⟨rfl,hb⟩
 have dS:=hJ hb
 clear hb
 go_wp2_with fail
 have bW:=hJ (bt dR.out dS.out)
 clear hHeld
 refine hK.out _ _ (cT.out _ bW.out) (fun hHeld=>?_)
 clear hK K
 refine tq 13 ?_
 try simp only [PT]
 refine wpAnyH_done (by kernel_rfl) ?_ _
 clear hHeld
 obtain ⟨x5,bX⟩:=nmz (v4.alloc (.cells #[.int .i64 0,.int .i64 1,.int .i64 2,.int .i64 1,.int .i64 2,.int .i64 0,.int .i64 2,.int .i64 0,.int .i64 1,.int .i64 1,.int .i64 0,.int .i64 2,.int .i64 0,.int .i64 2,.int .i64 1,.int .i64 2,.int .i64 1,.int .i64 0] 81))
 have cU:=hJ (show Below v4.heap.size v4 x5 by rw [←bX]; exact ((Below.refl _ _).alloc (Nat.le_refl _) _))
 have dT:=hJ (show BX 81 x5 v4.heap.size #[.int .i64 0,.int .i64 1,.int .i64 2,.int .i64 1,.int .i64 2,.int .i64 0,.int .i64 2,.int .i64 0,.int .i64 1,.int .i64 1,.int .i64 0,.int .i64 2,.int .i64 0,.int .i64 2,.int .i64 1,.int .i64 2,.int .i64 1,.int .i64 0] by rw [←bX]; exact (BX.at rfl))
 go_wp2_with fail
 clear bX
 go_loopw [8] (fun tv wr=>∃ i:Nat,i≤6∧tv=.int .i64 (i:Int)∧Below x5.heap.size x5 wr) (fun tv _=>6 - (intOf tv).toNat)
 case atStart=>exact ⟨0,by omega,rfl,Below.refl _ _⟩
 case round =>
  obtain ⟨i6,hi,rfl,hbel⟩:=hrel
  obtain ⟨wl6,rfl⟩:∃ W:World,W=wr:=⟨_,rfl⟩
  have bA:=hJ hbel
  clear hbel
  rcases (show i6 < 6∨i6=6 by omega) with hlt | rfl
  ·have h0i:(0:Int)≤(i6:Int):=by omega
   have hli:(i6:Int) < 6:=by omega
   obtain ⟨oa,ob,oc,h0,h1,h2,hla,hlb,hlc,htr⟩:∃ oa ob oc:Nat,(#[.int .i64 0,.int .i64 1,.int .i64 2,.int .i64 1,.int .i64 2,.int .i64 0,.int .i64 2,.int .i64 0,.int .i64 1,.int .i64 1,.int .i64 0,.int .i64 2,.int .i64 0,.int .i64 2,.int .i64 1,.int .i64 2,.int .i64 1,.int .i64 0]:Array Value)[i6*3]?=some (.int .i64 (oa:Int))∧(#[.int .i64 0,.int .i64 1,.int .i64 2,.int .i64 1,.int .i64 2,.int .i64 0,.int .i64 2,.int .i64 0,.int .i64 1,.int .i64 1,.int .i64 0,.int .i64 2,.int .i64 0,.int .i64 2,.int .i64 1,.int .i64 2,.int .i64 1,.int .i64 0]:Array Value)[i6*3+1]?=some (.int .i64 (ob:Int))∧(#[.int .i64 0,.int .i64 1,.int .i64 2,.int .i64 1,.int .i64 2,.int .i64 0,.int .i64 2,.int .i64 0,.int .i64 1,.int .i64 1,.int .i64 0,.int .i64 2,.int .i64 0,.int .i64 2,.int .i64 1,.int .i64 2,.int .i64 1,.int .i64 0]:Array Value)[i6*3+2]?=some (.int .i64 (oc:Int))∧oa < 4∧ob < 4∧oc < 4∧trV (xs oa) (ys oa) (ds oa) (xs ob) (ys ob) (ds ob) (xs oc) (ys oc) (ds oc) (xs 3) (ys 3) (ds 3)=trV (xs 0) (ys 0) (ds 0) (xs 1) (ys 1) (ds 1) (xs 2) (ys 2) (ds 2) (xs 3) (ys 3) (ds 3):=by
    have hcs:i6=0∨i6=1∨i6=2∨i6=3∨i6=4∨i6=5:=by omega
    rcases hcs with rfl | rfl | rfl | rfl | rfl | rfl
    ·exact ⟨0,1,2,rfl,rfl,rfl,by decide,by decide,by decide,rfl⟩
    ·exact ⟨1,2,0,rfl,rfl,rfl,by decide,by decide,by decide,(trV_cyc (HN.out 0 (by decide)).1.1 (HN.out 1 (by decide)).1.1 (xs 3) (ys 3) (ds 3))⟩
    ·exact ⟨2,0,1,rfl,rfl,rfl,by decide,by decide,by decide,((trV_cyc (HN.out 1 (by decide)).1.1 (HN.out 2 (by decide)).1.1 (xs 3) (ys 3) (ds 3)).trans (trV_cyc (HN.out 0 (by decide)).1.1 (HN.out 1 (by decide)).1.1 (xs 3) (ys 3) (ds 3)))⟩
    ·exact ⟨1,0,2,rfl,rfl,rfl,by decide,by decide,by decide,(trV_swap (HN.out 0 (by decide)).1.1 (HN.out 1 (by decide)).1.1 (HN.out 2 (by decide)).1.1 (xs 3) (ys 3) (ds 3))⟩
    ·exact ⟨0,2,1,rfl,rfl,rfl,by decide,by decide,by decide,((trV_cyc (HN.out 1 (by decide)).1.1 (HN.out 0 (by decide)).1.1 (xs 3) (ys 3) (ds 3)).trans (trV_swap (HN.out 0 (by decide)).1.1 (HN.out 1 (by decide)).1.1 (HN.out 2 (by decide)).1.1 (xs 3) (ys 3) (ds 3)))⟩
    exact ⟨2,1,0,rfl,rfl,rfl,by decide,by decide,by decide,((trV_cyc (HN.out 0 (by decide)).1.1 (HN.out 2 (by decide)).1.1 (xs 3) (ys 3) (ds 3)).trans ((trV_cyc (HN.out 1 (by decide)).1.1 (HN.out 0 (by decide)).1.1 (xs 3) (ys 3) (ds 3)).trans (trV_swap (HN.out 0 (by decide)).1.1 (HN.out 1 (by decide)).1.1 (HN.out 2 (by decide)).1.1 (xs 3) (ys 3) (ds 3))))⟩
   have dU:=hJ h0
   have dW:=hJ h1
   have dX:=hJ h2
   have aG:=hJ hla
   have aH:=hJ hlb
   have aP:=hJ hlc
   have dY:=hJ (htr.trans cS.out)
   have cV:=hJ (show (0:Int)≤(oa:Int)∧(oa:Int) < 4 by omega)
   have cW:=hJ (show (0:Int)≤(ob:Int)∧(ob:Int) < 4 by omega)
   have cX:=hJ (show (0:Int)≤(oc:Int)∧(oc:Int) < 4 by omega)
   clear h0 h1 h2 hla hlb hlc htr
   have dZ:=hJ (show trV (xs oa) (ys oa) (ds oa) (xs ob) (ys ob) (ds ob) (xs oc) (ys oc) (ds oc) (xs oa) (ys oa) (ds oa)=0 from trV_on _ _ _ (bt_end _ _ _ _ _ _))
   have eA:=hJ (show trV (xs oa) (ys oa) (ds oa) (xs ob) (ys ob) (ds ob) (xs oc) (ys oc) (ds oc) ((xs oa)*(ds ob)+(xs ob)*(ds oa)) ((ys oa)*(ds ob)+(ys ob)*(ds oa)) (2*((ds oa)*(ds ob)))=0 from trV_on _ _ _ (bt_mid (HN.out oa aG.out).1.1 (HN.out ob aH.out).1.1))
   have eB:=hJ (show Pz ((xs oa)*(ds ob)+(xs ob)*(ds oa)) ((ys oa)*(ds ob)+(ys ob)*(ds oa)) (2*((ds oa)*(ds ob))) from pz_mid (HN.out oa aG.out) (HN.out ob aH.out))
   have aL:=hJ (rowQ_get U aG.out)
   have bB:=hJ aL.out.1
   have bC:=hJ aL.out.2.1
   have bD:=hJ aL.out.2.2.1
   have bE:=hJ aL.out.2.2.2.1
   have bF:=hJ aL.out.2.2.2.2.1
   have bG:=hJ aL.out.2.2.2.2.2.1
   have bH:=hJ aL.out.2.2.2.2.2.2.1
   have bJ:=hJ aL.out.2.2.2.2.2.2.2
   have aM:=hJ (rowQ_get U aH.out)
   have bK:=hJ aM.out.1
   have bL:=hJ aM.out.2.1
   have bM:=hJ aM.out.2.2.1
   have bN:=hJ aM.out.2.2.2.1
   have bO:=hJ aM.out.2.2.2.2.1
   have bP:=hJ aM.out.2.2.2.2.2.1
   have bQ:=hJ aM.out.2.2.2.2.2.2.1
   have bR:=hJ aM.out.2.2.2.2.2.2.2
   have aN:=hJ (rowQ_get U aP.out)
   have bY:=hJ aN.out.1
   have bZ:=hJ aN.out.2.1
   have cA:=hJ aN.out.2.2.1
   have cB:=hJ aN.out.2.2.2.1
   have cC:=hJ aN.out.2.2.2.2.1
   have cD:=hJ aN.out.2.2.2.2.2.1
   have cE:=hJ aN.out.2.2.2.2.2.2.1
   have cF:=hJ aN.out.2.2.2.2.2.2.2
   have hki:(0:Int)≤(i6:Int):=by omega
   have hkj:(i6:Int) < 6:=by omega
   have cG:=hJ (BX.new dT.out bA.out)
   have eC:=cG.out.cell (i6*3) dU.out
   have eD:=cG.out.cell (i6*3+1) dW.out
   have eE:=cG.out.cell (i6*3+2) dX.out
   obtain ⟨x10,cH⟩:=nmz (wl6.alloc (.cells #[.int .i64 (oa:Int),.int .i64 (ob:Int),.int .i64 (oc:Int)] 81))
   have cY:=hJ (show Below wl6.heap.size wl6 x10 by rw [←cH]; exact ((Below.refl _ _).alloc (Nat.le_refl _) _))
   have bS:=hJ (show BX 81 x10 wl6.heap.size #[.int .i64 (oa:Int),.int .i64 (ob:Int),.int .i64 (oc:Int)] by rw [←cH]; exact (BX.at rfl))
   have hoap:=cV.out.1
   have hoaq:=cV.out.2
   have hobp:=cW.out.1
   have hobq:=cW.out.2
   have hocp:=cX.out.1
   have hocq:=cX.out.2
   have cZ:=hJ (bt (bt (bt bW.out cU.out) bA.out) cY.out)
   have aB:=hJ (OwnR.new dP.out cZ.out)
   have dA:Hid (∀ w',Below x10.heap.size x10 w'→(fun w':World=>w'.cell? ⟨wl6.heap.size,0,none⟩=some (.int .i64 (oa:Int))∧w'.cell? ⟨gq,oa*8,none⟩=some ((U oa 0))∧w'.cell? ⟨gq,oa*8+1,none⟩=some ((U oa 1))∧w'.cell? ⟨gq,oa*8+2,none⟩=some ((U oa 2))∧w'.cell? ⟨gq,oa*8+3,none⟩=some ((U oa 3))∧w'.cell? ⟨gq,oa*8+4,none⟩=some ((U oa 4))∧w'.cell? ⟨gq,oa*8+5,none⟩=some ((U oa 5))∧w'.cell? ⟨gq,oa*8+6,none⟩=some ((U oa 6))∧w'.cell? ⟨gq,oa*8+7,none⟩=some ((U oa 7))∧w'.cell? ⟨wl6.heap.size,1,none⟩=some (.int .i64 (ob:Int))∧w'.cell? ⟨gq,ob*8,none⟩=some ((U ob 0))∧w'.cell? ⟨gq,ob*8+1,none⟩=some ((U ob 1))∧w'.cell? ⟨gq,ob*8+2,none⟩=some ((U ob 2))∧w'.cell? ⟨gq,ob*8+3,none⟩=some ((U ob 3))∧w'.cell? ⟨gq,ob*8+4,none⟩=some ((U ob 4))∧w'.cell? ⟨gq,ob*8+5,none⟩=some ((U ob 5))∧w'.cell? ⟨gq,ob*8+6,none⟩=some ((U ob 6))∧w'.cell? ⟨gq,ob*8+7,none⟩=some ((U ob 7))∧w'.cell? ⟨wl6.heap.size,2,none⟩=some (.int .i64 (oc:Int))∧w'.cell? ⟨gq,oc*8,none⟩=some ((U oc 0))∧w'.cell? ⟨gq,oc*8+1,none⟩=some ((U oc 1))∧w'.cell? ⟨gq,oc*8+2,none⟩=some ((U oc 2))∧w'.cell? ⟨gq,oc*8+3,none⟩=some ((U oc 3))∧w'.cell? ⟨gq,oc*8+4,none⟩=some ((U oc 4))∧w'.cell? ⟨gq,oc*8+5,none⟩=some ((U oc 5))∧w'.cell? ⟨gq,oc*8+6,none⟩=some ((U oc 6))∧w'.cell? ⟨gq,oc*8+7,none⟩=some ((U oc 7))∧w'.cell? ⟨gq,24,none⟩=some ((U 3 0))∧w'.cell? ⟨gq,25,none⟩=some ((U 3 1))∧w'.cell? ⟨gq,26,none⟩=some ((U 3 2))∧w'.cell? ⟨gq,27,none⟩=some ((U 3 3))∧w'.cell? ⟨gq,28,none⟩=some ((U 3 4))∧w'.cell? ⟨gq,29,none⟩=some ((U 3 5))∧w'.cell? ⟨gq,30,none⟩=some ((U 3 6))∧w'.cell? ⟨gq,31,none⟩=some ((U 3 7))∧Below x10.heap.size x10 w') w'):=hJ (fun w' hb=>⟨(BX.new bS.out hb).cell 0 rfl,(OwnR.new aB.out hb).at (oa*8) bB.out,(OwnR.new aB.out hb).at (oa*8+1) bC.out,(OwnR.new aB.out hb).at (oa*8+2) bD.out,(OwnR.new aB.out hb).at (oa*8+3) bE.out,(OwnR.new aB.out hb).at (oa*8+4) bF.out,(OwnR.new aB.out hb).at (oa*8+5) bG.out,(OwnR.new aB.out hb).at (oa*8+6) bH.out,(OwnR.new aB.out hb).at (oa*8+7) bJ.out,(BX.new bS.out hb).cell 1 rfl,(OwnR.new aB.out hb).at (ob*8) bK.out,(OwnR.new aB.out hb).at (ob*8+1) bL.out,(OwnR.new aB.out hb).at (ob*8+2) bM.out,(OwnR.new aB.out hb).at (ob*8+3) bN.out,(OwnR.new aB.out hb).at (ob*8+4) bO.out,(OwnR.new aB.out hb).at (ob*8+5) bP.out,(OwnR.new aB.out hb).at (ob*8+6) bQ.out,(OwnR.new aB.out hb).at (ob*8+7) bR.out,(BX.new bS.out hb).cell 2 rfl,(OwnR.new aB.out hb).at (oc*8) bY.out,(OwnR.new aB.out hb).at (oc*8+1) bZ.out,(OwnR.new aB.out hb).at (oc*8+2) cA.out,(OwnR.new aB.out hb).at (oc*8+3) cB.out,(OwnR.new aB.out hb).at (oc*8+4) cC.out,(OwnR.new aB.out hb).at (oc*8+5) cD.out,(OwnR.new aB.out hb).at (oc*8+6) cE.out,(OwnR.new aB.out hb).at (oc*8+7) cF.out,(OwnR.new aB.out hb).at 24 rfl,(OwnR.new aB.out hb).at 25 rfl,(OwnR.new aB.out hb).at 26 rfl,(OwnR.new aB.out hb).at 27 rfl,(OwnR.new aB.out hb).at 28 rfl,(OwnR.new aB.out hb).at 29 rfl,(OwnR.new aB.out hb).at 30 rfl,(OwnR.new aB.out hb).at 31 rfl,hb⟩)
   have aQ:=hJ (LF.new dQ.out cZ.out)
   go_wp2_with fail
   clear hki hkj eC eD eE cH
   obtain ⟨v11,hv11⟩:=nmz (World.drew x10)
   have aR:=hJ (show Below x10.heap.size x10 v11 by rw [←hv11]; exact (Below.refl _ _).drew)
   refine whd dA hv11 (fun hHeld=>?_)
   clear hv11
   refine tq 0 ?_
   refine tq 1 ?_
   refine tq 2 ?_
   refine tq 3 ?_
   refine tq 4 ?_
   refine tq 5 ?_
   refine tq 6 ?_
   refine tq 7 ?_
   refine tq 8 ?_
   refine tq 9 ?_
   refine tq 10 ?_
   refine tq 11 ?_
   refine tq 12 ?_
   refine tq 13 ?_
   refine tq 14 ?_
   refine tq 15 ?_
   refine tq 16 ?_
   refine tq 17 ?_
   try simp only [PT]
   refine ryy [18] ?_
   refine .cons rfl (fun K hK=>?_) .nil
   go_simp
   go_at_call 50
   refine (trianglev_any v11 ((LF.new aQ.out aR.out) oa aG.out) ((LF.new aQ.out aR.out) ob aH.out) ((LF.new aQ.out aR.out) oc aP.out) ((LF.new aQ.out aR.out) 3 (by decide)) (pq_pz (HN.out oa aG.out)) (pq_pz (HN.out ob aH.out)) (pq_pz (HN.out oc aP.out)) (pq_pz (HN.out 3 (by decide)))).mono ?_
   rw [dY.out]
   rintro e v12 ⟨rfl,hb⟩
   have eF:=hJ hb
   clear hb
   go_wp2_with fail
   have aS:=hJ (bt aR.out eF.out)
   clear hHeld
   refine hK.out _ _ (dA.out _ aS.out) (fun hHeld=>?_)
   clear hK K
   refine tq 19 ?_
   refine tq 20 ?_
   refine tq 21 ?_
   refine tq 22 ?_
   refine tq 23 ?_
   try simp only [PT]
   refine wpAnyH_done (by kernel_rfl) ?_ _
   clear hHeld
   have bT:=hJ (BX.new bS.out aS.out)
   have aC:=hJ (OwnR.new aB.out aS.out)
   have dB:Hid (∀ w',Below v12.heap.size v12 w'→(fun w':World=>w'.cell? ⟨wl6.heap.size,0,none⟩=some (.int .i64 (oa:Int))∧w'.cell? ⟨gq,oa*8,none⟩=some ((U oa 0))∧w'.cell? ⟨gq,oa*8+1,none⟩=some ((U oa 1))∧w'.cell? ⟨gq,oa*8+2,none⟩=some ((U oa 2))∧w'.cell? ⟨gq,oa*8+3,none⟩=some ((U oa 3))∧w'.cell? ⟨gq,oa*8+4,none⟩=some ((U oa 4))∧w'.cell? ⟨gq,oa*8+5,none⟩=some ((U oa 5))∧w'.cell? ⟨gq,oa*8+6,none⟩=some ((U oa 6))∧w'.cell? ⟨gq,oa*8+7,none⟩=some ((U oa 7))∧w'.cell? ⟨wl6.heap.size,1,none⟩=some (.int .i64 (ob:Int))∧w'.cell? ⟨gq,ob*8,none⟩=some ((U ob 0))∧w'.cell? ⟨gq,ob*8+1,none⟩=some ((U ob 1))∧w'.cell? ⟨gq,ob*8+2,none⟩=some ((U ob 2))∧w'.cell? ⟨gq,ob*8+3,none⟩=some ((U ob 3))∧w'.cell? ⟨gq,ob*8+4,none⟩=some ((U ob 4))∧w'.cell? ⟨gq,ob*8+5,none⟩=some ((U ob 5))∧w'.cell? ⟨gq,ob*8+6,none⟩=some ((U ob 6))∧w'.cell? ⟨gq,ob*8+7,none⟩=some ((U ob 7))∧w'.cell? ⟨wl6.heap.size,2,none⟩=some (.int .i64 (oc:Int))∧w'.cell? ⟨gq,oc*8,none⟩=some ((U oc 0))∧w'.cell? ⟨gq,oc*8+1,none⟩=some ((U oc 1))∧w'.cell? ⟨gq,oc*8+2,none⟩=some ((U oc 2))∧w'.cell? ⟨gq,oc*8+3,none⟩=some ((U oc 3))∧w'.cell? ⟨gq,oc*8+4,none⟩=some ((U oc 4))∧w'.cell? ⟨gq,oc*8+5,none⟩=some ((U oc 5))∧w'.cell? ⟨gq,oc*8+6,none⟩=some ((U oc 6))∧w'.cell? ⟨gq,oc*8+7,none⟩=some ((U oc 7))∧Below v12.heap.size v12 w') w'):=hJ (fun w' hb=>⟨(BX.new bT.out hb).cell 0 rfl,(OwnR.new aC.out hb).at (oa*8) bB.out,(OwnR.new aC.out hb).at (oa*8+1) bC.out,(OwnR.new aC.out hb).at (oa*8+2) bD.out,(OwnR.new aC.out hb).at (oa*8+3) bE.out,(OwnR.new aC.out hb).at (oa*8+4) bF.out,(OwnR.new aC.out hb).at (oa*8+5) bG.out,(OwnR.new aC.out hb).at (oa*8+6) bH.out,(OwnR.new aC.out hb).at (oa*8+7) bJ.out,(BX.new bT.out hb).cell 1 rfl,(OwnR.new aC.out hb).at (ob*8) bK.out,(OwnR.new aC.out hb).at (ob*8+1) bL.out,(OwnR.new aC.out hb).at (ob*8+2) bM.out,(OwnR.new aC.out hb).at (ob*8+3) bN.out,(OwnR.new aC.out hb).at (ob*8+4) bO.out,(OwnR.new aC.out hb).at (ob*8+5) bP.out,(OwnR.new aC.out hb).at (ob*8+6) bQ.out,(OwnR.new aC.out hb).at (ob*8+7) bR.out,(BX.new bT.out hb).cell 2 rfl,(OwnR.new aC.out hb).at (oc*8) bY.out,(OwnR.new aC.out hb).at (oc*8+1) bZ.out,(OwnR.new aC.out hb).at (oc*8+2) cA.out,(OwnR.new aC.out hb).at (oc*8+3) cB.out,(OwnR.new aC.out hb).at (oc*8+4) cC.out,(OwnR.new aC.out hb).at (oc*8+5) cD.out,(OwnR.new aC.out hb).at (oc*8+6) cE.out,(OwnR.new aC.out hb).at (oc*8+7) cF.out,hb⟩)
   have aT:=hJ (LF.new aQ.out aS.out)
   go_wp2_with fail
   obtain ⟨v13,hv13⟩:=nmz (World.drew v12)
   have aU:=hJ (show Below v12.heap.size v12 v13 by rw [←hv13]; exact (Below.refl _ _).drew)
   refine whd dB hv13 (fun hHeld=>?_)
   clear hv13
   refine tq 0 ?_
   refine tq 1 ?_
   refine tq 2 ?_
   refine tq 3 ?_
   refine tq 4 ?_
   refine tq 5 ?_
   refine tq 6 ?_
   refine tq 7 ?_
   refine tq 8 ?_
   refine tq 9 ?_
   refine tq 10 ?_
   refine tq 11 ?_
   refine tq 12 ?_
   refine tq 13 ?_
   refine tq 14 ?_
   refine tq 15 ?_
   refine tq 16 ?_
   refine tq 17 ?_
   refine tq 18 ?_
   refine tq 19 ?_
   try simp only [PT]
   refine ryy [20] ?_
   refine .cons rfl (fun K hK=>?_) .nil
   go_simp
   go_at_call 50
   refine (trianglev_any v13 ((LF.new aT.out aU.out) oa aG.out) ((LF.new aT.out aU.out) ob aH.out) ((LF.new aT.out aU.out) oc aP.out) ((LF.new aT.out aU.out) oa aG.out) (pq_pz (HN.out oa aG.out)) (pq_pz (HN.out ob aH.out)) (pq_pz (HN.out oc aP.out)) (pq_pz (HN.out oa aG.out))).mono ?_
   rw [dZ.out]
   rintro e v14 ⟨rfl,hb⟩
   have eG:=hJ hb
   clear hb
   go_wp2_with fail
   have aV:=hJ (bt aU.out eG.out)
   clear hHeld
   refine hK.out _ _ (dB.out _ aV.out) (fun hHeld=>?_)
   clear hK K
   refine tq 21 ?_
   refine tq 22 ?_
   refine tq 23 ?_
   refine tq 24 ?_
   refine tq 25 ?_
   try simp only [PT]
   refine wpAnyH_done (by kernel_rfl) ?_ _
   clear hHeld
   have cI:=hJ (BX.new bT.out aV.out)
   have aF:=hJ (OwnR.new aC.out aV.out)
   have aK:Hid (∀ w',Below v14.heap.size v14 w'→(fun w':World=>w'.cell? ⟨wl6.heap.size,0,none⟩=some (.int .i64 (oa:Int))∧w'.cell? ⟨gq,oa*8,none⟩=some ((U oa 0))∧w'.cell? ⟨gq,oa*8+1,none⟩=some ((U oa 1))∧w'.cell? ⟨gq,oa*8+2,none⟩=some ((U oa 2))∧w'.cell? ⟨gq,oa*8+3,none⟩=some ((U oa 3))∧w'.cell? ⟨gq,oa*8+4,none⟩=some ((U oa 4))∧w'.cell? ⟨gq,oa*8+5,none⟩=some ((U oa 5))∧w'.cell? ⟨gq,oa*8+6,none⟩=some ((U oa 6))∧w'.cell? ⟨gq,oa*8+7,none⟩=some ((U oa 7))∧w'.cell? ⟨wl6.heap.size,1,none⟩=some (.int .i64 (ob:Int))∧w'.cell? ⟨gq,ob*8,none⟩=some ((U ob 0))∧w'.cell? ⟨gq,ob*8+1,none⟩=some ((U ob 1))∧w'.cell? ⟨gq,ob*8+2,none⟩=some ((U ob 2))∧w'.cell? ⟨gq,ob*8+3,none⟩=some ((U ob 3))∧w'.cell? ⟨gq,ob*8+4,none⟩=some ((U ob 4))∧w'.cell? ⟨gq,ob*8+5,none⟩=some ((U ob 5))∧w'.cell? ⟨gq,ob*8+6,none⟩=some ((U ob 6))∧w'.cell? ⟨gq,ob*8+7,none⟩=some ((U ob 7))∧Below v14.heap.size v14 w') w'):=hJ (fun w' hb=>⟨(BX.new cI.out hb).cell 0 rfl,(OwnR.new aF.out hb).at (oa*8) bB.out,(OwnR.new aF.out hb).at (oa*8+1) bC.out,(OwnR.new aF.out hb).at (oa*8+2) bD.out,(OwnR.new aF.out hb).at (oa*8+3) bE.out,(OwnR.new aF.out hb).at (oa*8+4) bF.out,(OwnR.new aF.out hb).at (oa*8+5) bG.out,(OwnR.new aF.out hb).at (oa*8+6) bH.out,(OwnR.new aF.out hb).at (oa*8+7) bJ.out,(BX.new cI.out hb).cell 1 rfl,(OwnR.new aF.out hb).at (ob*8) bK.out,(OwnR.new aF.out hb).at (ob*8+1) bL.out,(OwnR.new aF.out hb).at (ob*8+2) bM.out,(OwnR.new aF.out hb).at (ob*8+3) bN.out,(OwnR.new aF.out hb).at (ob*8+4) bO.out,(OwnR.new aF.out hb).at (ob*8+5) bP.out,(OwnR.new aF.out hb).at (ob*8+6) bQ.out,(OwnR.new aF.out hb).at (ob*8+7) bR.out,hb⟩)
   have aW:=hJ (LF.new aT.out aV.out)
   go_wp2_with fail
   obtain ⟨v15,hv15⟩:=nmz (World.drew v14)
   have aX:=hJ (show Below v14.heap.size v14 v15 by rw [←hv15]; exact (Below.refl _ _).drew)
   refine whd aK hv15 (fun hHeld=>?_)
   clear hv15
   refine tq 0 ?_
   refine tq 1 ?_
   refine tq 2 ?_
   refine tq 3 ?_
   refine tq 4 ?_
   refine tq 5 ?_
   refine tq 6 ?_
   refine tq 7 ?_
   refine tq 8 ?_
   refine tq 9 ?_
   try simp only [PT]
   refine wpAnyH_name (fun F hF a0 ha0 L0 hL0=>?_)
   have bU:∀ (sm:Bool) (Am:Option Addr) (nm:Nat) (cm:Nat) (tm:Bool) (Bm:Option Addr) (mm:Nat) (dm:Nat) (smb:Bool) (Amb:Option Addr) (nmb:Nat) (cmb:Nat) (tmb:Bool) (Bmb:Option Addr) (mmb:Nat) (dmb:Nat) (aA:Nat) (v:World),Hid (Below v14.heap.size v14 v)→Hid (PTq v (.bool sm) (.slice Am nm cm) (.bool tm) (.slice Bm mm dm) (.bool smb) (.slice Amb nmb cmb) (.bool tmb) (.slice Bmb mmb dmb) ((xs oa)*(ds ob)+(xs ob)*(ds oa)) ((ys oa)*(ds ob)+(ys ob)*(ds oa)) (2*((ds oa)*(ds ob))))→Hid (BX 29 v aA #[.bool false,.slice none 0 0,.bool false,.slice none 0 0,.bool false,.slice none 0 0,.bool false,.slice none 0 0])→Hid (v14.heap.size≤aA)→F 2 (Array.setIfInBounds (Array.setIfInBounds (Array.setIfInBounds (Array.setIfInBounds (Array.setIfInBounds L0 10 true) 14 true) 11 true) 12 true) 13 true) (Act.put (Act.put (Act.put (Act.put (Act.put a0 (some 112) (.tuple #[.agg #[.bool sm,.slice Am nm cm,.bool tm,.slice Bm mm dm,.bool smb,.slice Amb nmb cmb,.bool tmb,.slice Bmb mmb dmb],.int .i64 0])) (some 14) (.pointer (some ⟨aA,0,none⟩))) (some 101) (.tuple #[.agg #[.bool sm,.slice Am nm cm,.bool tm,.slice Bm mm dm,.bool smb,.slice Amb nmb cmb,.bool tmb,.slice Bmb mmb dmb],.int .i64 0])) (some 113) (.agg #[.bool sm,.slice Am nm cm,.bool tm,.slice Bm mm dm,.bool smb,.slice Amb nmb cmb,.bool tmb,.slice Bmb mmb dmb])) (some 114) (.int .i64 0)) v:=by
    intro sm Am nm cm tm Bm mm dm smb Amb nmb cmb tmb Bmb mmb dmb aA v aJ cJ aE cK
    subst hF ha0 hL0
    simp only [PT] at  ⊢
    have hHeld:=aK.out _ aJ.out
    refine ryy [15] ?_
    refine .cons rfl (fun K hK=>?_) .nil
    have z16_0:=aE.out.cell 0 rfl
    have y16_0:=aE.out.frozen 0
    have z16_1:=aE.out.cell 1 rfl
    have y16_1:=aE.out.frozen 1
    have z16_2:=aE.out.cell 2 rfl
    have y16_2:=aE.out.frozen 2
    have z16_3:=aE.out.cell 3 rfl
    have y16_3:=aE.out.frozen 3
    have z16_4:=aE.out.cell 4 rfl
    have y16_4:=aE.out.frozen 4
    have z16_5:=aE.out.cell 5 rfl
    have y16_5:=aE.out.frozen 5
    have z16_6:=aE.out.cell 6 rfl
    have y16_6:=aE.out.frozen 6
    have z16_7:=aE.out.cell 7 rfl
    have y16_7:=aE.out.frozen 7
    have z16:=aE.out.lt
    go_simp
    obtain ⟨v16,hV⟩:=nmz (World.setCell (World.setCell (World.setCell (World.setCell (World.setCell (World.setCell (World.setCell (World.setCell v ⟨aA,0,none⟩ (.bool sm)) ⟨aA,1,none⟩ (.slice Am nm cm)) ⟨aA,2,none⟩ (.bool tm)) ⟨aA,3,none⟩ (.slice Bm mm dm)) ⟨aA,4,none⟩ (.bool smb)) ⟨aA,5,none⟩ (.slice Amb nmb cmb)) ⟨aA,6,none⟩ (.bool tmb)) ⟨aA,7,none⟩ (.slice Bmb mmb dmb))
    rw [hV]
    have cL:=hJ (show sto v aA 0 [.bool sm,.slice Am nm cm,.bool tm,.slice Bm mm dm,.bool smb,.slice Amb nmb cmb,.bool tmb,.slice Bmb mmb dmb]=v16 from hV)
    clear hV z16 z16_0 y16_0 z16_1 y16_1 z16_2 y16_2 z16_3 y16_3 z16_4 y16_4 z16_5 y16_5 z16_6 y16_6 z16_7 y16_7
    have aY:=hJ (show Below v14.heap.size v14 v16 by rw [←cL.out]; exact below_sto aJ.out cK.out _ _)
    have eH:=hJ (show PTq v16 (.bool sm) (.slice Am nm cm) (.bool tm) (.slice Bm mm dm) (.bool smb) (.slice Amb nmb cmb) (.bool tmb) (.slice Bmb mmb dmb) ((xs oa)*(ds ob)+(xs ob)*(ds oa)) ((ys oa)*(ds ob)+(ys ob)*(ds oa)) (2*((ds oa)*(ds ob))) by rw [←cL.out]; exact PTq.sto cJ.out aE.out rfl _ _)
    have aO:=hJ (show BX 29 v16 aA #[.bool sm,.slice Am nm cm,.bool tm,.slice Bm mm dm,.bool smb,.slice Amb nmb cmb,.bool tmb,.slice Bmb mmb dmb] by rw [←cL.out]; exact BX.put aE.out _ _)
    clear hHeld
    refine hK.out _ _ (aK.out _ aY.out) (fun hHeld=>?_)
    clear hK K
    refine tq 16 ?_
    try simp only [PT]
    refine wpAnyH_done (by kernel_rfl) ?_ _
    clear hHeld
    have cM:=hJ (BX.new cI.out aY.out)
    have aD:=hJ (OwnR.new aF.out aY.out)
    have dD:Hid (∀ w',Below v16.heap.size v16 w'→(fun w':World=>w'.cell? ⟨wl6.heap.size,0,none⟩=some (.int .i64 (oa:Int))∧w'.cell? ⟨gq,oa*8,none⟩=some ((U oa 0))∧w'.cell? ⟨gq,oa*8+1,none⟩=some ((U oa 1))∧w'.cell? ⟨gq,oa*8+2,none⟩=some ((U oa 2))∧w'.cell? ⟨gq,oa*8+3,none⟩=some ((U oa 3))∧w'.cell? ⟨gq,oa*8+4,none⟩=some ((U oa 4))∧w'.cell? ⟨gq,oa*8+5,none⟩=some ((U oa 5))∧w'.cell? ⟨gq,oa*8+6,none⟩=some ((U oa 6))∧w'.cell? ⟨gq,oa*8+7,none⟩=some ((U oa 7))∧w'.cell? ⟨wl6.heap.size,1,none⟩=some (.int .i64 (ob:Int))∧w'.cell? ⟨gq,ob*8,none⟩=some ((U ob 0))∧w'.cell? ⟨gq,ob*8+1,none⟩=some ((U ob 1))∧w'.cell? ⟨gq,ob*8+2,none⟩=some ((U ob 2))∧w'.cell? ⟨gq,ob*8+3,none⟩=some ((U ob 3))∧w'.cell? ⟨gq,ob*8+4,none⟩=some ((U ob 4))∧w'.cell? ⟨gq,ob*8+5,none⟩=some ((U ob 5))∧w'.cell? ⟨gq,ob*8+6,none⟩=some ((U ob 6))∧w'.cell? ⟨gq,ob*8+7,none⟩=some ((U ob 7))∧w'.cell? ⟨wl6.heap.size,2,none⟩=some (.int .i64 (oc:Int))∧w'.cell? ⟨gq,oc*8,none⟩=some ((U oc 0))∧w'.cell? ⟨gq,oc*8+1,none⟩=some ((U oc 1))∧w'.cell? ⟨gq,oc*8+2,none⟩=some ((U oc 2))∧w'.cell? ⟨gq,oc*8+3,none⟩=some ((U oc 3))∧w'.cell? ⟨gq,oc*8+4,none⟩=some ((U oc 4))∧w'.cell? ⟨gq,oc*8+5,none⟩=some ((U oc 5))∧w'.cell? ⟨gq,oc*8+6,none⟩=some ((U oc 6))∧w'.cell? ⟨gq,oc*8+7,none⟩=some ((U oc 7))∧w'.cell? ⟨aA,0,none⟩=some (.bool sm)∧w'.cell? ⟨aA,1,none⟩=some (.slice Am nm cm)∧w'.cell? ⟨aA,2,none⟩=some (.bool tm)∧w'.cell? ⟨aA,3,none⟩=some (.slice Bm mm dm)∧w'.cell? ⟨aA,4,none⟩=some (.bool smb)∧w'.cell? ⟨aA,5,none⟩=some (.slice Amb nmb cmb)∧w'.cell? ⟨aA,6,none⟩=some (.bool tmb)∧w'.cell? ⟨aA,7,none⟩=some (.slice Bmb mmb dmb)∧Below v16.heap.size v16 w') w'):=hJ (fun w' hb=>⟨(BX.new cM.out hb).cell 0 rfl,(OwnR.new aD.out hb).at (oa*8) bB.out,(OwnR.new aD.out hb).at (oa*8+1) bC.out,(OwnR.new aD.out hb).at (oa*8+2) bD.out,(OwnR.new aD.out hb).at (oa*8+3) bE.out,(OwnR.new aD.out hb).at (oa*8+4) bF.out,(OwnR.new aD.out hb).at (oa*8+5) bG.out,(OwnR.new aD.out hb).at (oa*8+6) bH.out,(OwnR.new aD.out hb).at (oa*8+7) bJ.out,(BX.new cM.out hb).cell 1 rfl,(OwnR.new aD.out hb).at (ob*8) bK.out,(OwnR.new aD.out hb).at (ob*8+1) bL.out,(OwnR.new aD.out hb).at (ob*8+2) bM.out,(OwnR.new aD.out hb).at (ob*8+3) bN.out,(OwnR.new aD.out hb).at (ob*8+4) bO.out,(OwnR.new aD.out hb).at (ob*8+5) bP.out,(OwnR.new aD.out hb).at (ob*8+6) bQ.out,(OwnR.new aD.out hb).at (ob*8+7) bR.out,(BX.new cM.out hb).cell 2 rfl,(OwnR.new aD.out hb).at (oc*8) bY.out,(OwnR.new aD.out hb).at (oc*8+1) bZ.out,(OwnR.new aD.out hb).at (oc*8+2) cA.out,(OwnR.new aD.out hb).at (oc*8+3) cB.out,(OwnR.new aD.out hb).at (oc*8+4) cC.out,(OwnR.new aD.out hb).at (oc*8+5) cD.out,(OwnR.new aD.out hb).at (oc*8+6) cE.out,(OwnR.new aD.out hb).at (oc*8+7) cF.out,(BX.new aO.out hb).cell 0 rfl,(BX.new aO.out hb).cell 1 rfl,(BX.new aO.out hb).cell 2 rfl,(BX.new aO.out hb).cell 3 rfl,(BX.new aO.out hb).cell 4 rfl,(BX.new aO.out hb).cell 5 rfl,(BX.new aO.out hb).cell 6 rfl,(BX.new aO.out hb).cell 7 rfl,hb⟩)
    have cN:=hJ (LF.new aW.out aY.out)
    go_wp2_with fail
    obtain ⟨v18,hv18⟩:=nmz (World.drew v16)
    have aZ:=hJ (show Below v16.heap.size v16 v18 by rw [←hv18]; exact (Below.refl _ _).drew)
    refine whd dD hv18 (fun hHeld=>?_)
    clear hv18
    refine tq 0 ?_
    refine tq 1 ?_
    refine tq 2 ?_
    refine tq 3 ?_
    refine tq 4 ?_
    refine tq 5 ?_
    refine tq 6 ?_
    refine tq 7 ?_
    refine tq 8 ?_
    refine tq 9 ?_
    refine tq 10 ?_
    refine tq 11 ?_
    refine tq 12 ?_
    refine tq 13 ?_
    refine tq 14 ?_
    refine tq 15 ?_
    try simp only [PT]
    refine ryy [16] ?_
    refine .cons rfl (fun K hK=>?_) .nil
    go_simp
    go_at_call 50
    refine (trianglev_any v18 ((LF.new cN.out aZ.out) oa aG.out) ((LF.new cN.out aZ.out) ob aH.out) ((LF.new cN.out aZ.out) oc aP.out) (PTq.new eH.out aZ.out) (pq_pz (HN.out oa aG.out)) (pq_pz (HN.out ob aH.out)) (pq_pz (HN.out oc aP.out)) eB.out).mono ?_
    rw [eA.out]
    rintro e v19 ⟨rfl,hb⟩
    have eI:=hJ hb
    clear hb
    go_wp2_with fail
    have dE:=hJ (bt aZ.out eI.out)
    clear hHeld
    refine hK.out _ _ (dD.out _ dE.out) (fun hHeld=>?_)
    clear hK K
    refine tq 17 ?_
    refine tq 18 ?_
    refine tq 19 ?_
    refine tq 20 ?_
    refine tq 21 ?_
    try simp only [PT]
    refine wpAnyH_done (by kernel_rfl) ?_ _
    clear hHeld
    have eJ:=hJ (bt (bt (bt (bt (bt bA.out cY.out) aS.out) aV.out) aY.out) dE.out)
    go_wp2_with fail
    go_roundw
    case rel=>exact ⟨i6+1,by omega,by go_num,eJ.out⟩
    case measure=>simp [intOf] <;> omega
   have dF:∀ (sm:Bool) (Am:Option Addr) (nm:Nat) (cm:Nat) (tm:Bool) (Bm:Option Addr) (mm:Nat) (dm:Nat) (smb:Bool) (Amb:Option Addr) (nmb:Nat) (cmb:Nat) (tmb:Bool) (Bmb:Option Addr) (mmb:Nat) (dmb:Nat) (v:World),Hid (Below v14.heap.size v14 v)→Hid (PTq v (.bool sm) (.slice Am nm cm) (.bool tm) (.slice Bm mm dm) (.bool smb) (.slice Amb nmb cmb) (.bool tmb) (.slice Bmb mmb dmb) ((xs oa)*(ds ob)+(xs ob)*(ds oa)) ((ys oa)*(ds ob)+(ys ob)*(ds oa)) (2*((ds oa)*(ds ob))))→F 3 (Array.setIfInBounds (Array.setIfInBounds (Array.setIfInBounds (Array.setIfInBounds L0 10 true) 11 true) 12 true) 13 true) (Act.put (Act.put (Act.put (Act.put a0 (some 112) (.tuple #[.agg #[.bool sm,.slice Am nm cm,.bool tm,.slice Bm mm dm,.bool smb,.slice Amb nmb cmb,.bool tmb,.slice Bmb mmb dmb],.int .i64 0])) (some 101) (.tuple #[.agg #[.bool sm,.slice Am nm cm,.bool tm,.slice Bm mm dm,.bool smb,.slice Amb nmb cmb,.bool tmb,.slice Bmb mmb dmb],.int .i64 0])) (some 113) (.agg #[.bool sm,.slice Am nm cm,.bool tm,.slice Bm mm dm,.bool smb,.slice Amb nmb cmb,.bool tmb,.slice Bmb mmb dmb])) (some 114) (.int .i64 0)) v:=by
    intro sm Am nm cm tm Bm mm dm smb Amb nmb cmb tmb Bmb mmb dmb v aJ cJ
    subst hF ha0 hL0
    simp only [PT] at bU ⊢
    have hHeld:=aK.out _ aJ.out
    refine ryy [14] ?_
    refine .cons rfl (fun K hK=>?_) .nil
    go_simp
    have cO:=hJ ((Below.refl v.heap.size v).alloc (Nat.le_refl _) (.cells #[.bool false,.slice none 0 0,.bool false,.slice none 0 0,.bool false,.slice none 0 0,.bool false,.slice none 0 0] 29))
    have cP:=hJ (BX.lit v 29 #[.bool false,.slice none 0 0,.bool false,.slice none 0 0,.bool false,.slice none 0 0,.bool false,.slice none 0 0])
    obtain ⟨v20,hV⟩:=nmz (World.alloc v (.cells #[.bool false,.slice none 0 0,.bool false,.slice none 0 0,.bool false,.slice none 0 0,.bool false,.slice none 0 0] 29))
    obtain ⟨aA,hg⟩:=nmz (v.heap.size)
    rw [hV] at cO cP ⊢
    rw [hg] at cP ⊢
    have eK:=hJ (show v14.heap.size≤aA by rw [←hg]; exact aJ.out.size)
    clear hV hg
    have dG:=hJ (bt aJ.out cO.out)
    have eL:=hJ (PTq.new cJ.out cO.out)
    clear hHeld
    refine hK.out _ _ (aK.out _ dG.out) (fun hHeld=>?_)
    clear hK K
    try simp only [PT]
    exact wpAnyH_cast (by kernel_rfl) (bU sm Am nm cm tm Bm mm dm smb Amb nmb cmb tmb Bmb mmb dmb aA v20 dG eL cP eK)
   have dH:∀ (aA:Nat) (v:World),Hid (Below v14.heap.size v14 v)→Hid (BX 29 v aA #[.bool false,.slice none 0 0,.bool false,.slice none 0 0,.bool false,.slice none 0 0,.bool false,.slice none 0 0])→Hid (v14.heap.size≤aA)→F 6 (Array.setIfInBounds L0 14 true) (Act.put a0 (some 14) (.pointer (some ⟨aA,0,none⟩))) v:=by
    intro aA v aJ aE cK
    subst hF ha0 hL0
    simp only [PT] at bU ⊢
    have hHeld:=aK.out _ aJ.out
    refine ryy [10] ?_
    refine .cons rfl (fun K hK=>?_) .nil
    go_simp
    go_at_call 51
    refine (midv_any v ((LF.new aW.out aJ.out) oa aG.out) ((LF.new aW.out aJ.out) ob aH.out) (HN.out oa aG.out) (HN.out ob aH.out)).mono ?_
    rintro e v21 ⟨sm,Am,nm,cm,tm,Bm,mm,dm,smb,Amb,nmb,cmb,tmb,Bmb,mmb,dmb,rfl,hm,hb⟩
    have dI:=hJ hb
    have eM:=hJ hm
    clear hb hm
    go_wp2_with fail
    have dJ:=hJ (bt aJ.out dI.out)
    have eN:=hJ (BX.new aE.out dI.out)
    clear hHeld
    refine hK.out _ _ (aK.out _ dJ.out) (fun hHeld=>?_)
    clear hK K
    refine tq 11 ?_
    refine tq 12 ?_
    refine tq 13 ?_
    try simp only [PT]
    exact wpAnyH_cast (by kernel_rfl) (bU sm Am nm cm tm Bm mm dm smb Amb nmb cmb tmb Bmb mmb dmb aA v21 dJ eM eN cK)
   subst hF ha0 hL0
   simp only [PT] at dF dH
   refine ryy [10,14] ?_
   refine .cons rfl (fun K hK=>?_) ?_
   go_simp
   go_at_call 51
   refine (midv_any v15 ((LF.new aW.out aX.out) oa aG.out) ((LF.new aW.out aX.out) ob aH.out) (HN.out oa aG.out) (HN.out ob aH.out)).mono ?_
   rintro e v22 ⟨sm,Am,nm,cm,tm,Bm,mm,dm,smb,Amb,nmb,cmb,tmb,Bmb,mmb,dmb,rfl,hm,hb⟩
   have eO:=hJ hb
   have eP:=hJ hm
   clear hb hm
   go_wp2_with fail
   have dK:=hJ (bt aX.out eO.out)
   clear hHeld
   refine hK.out _ _ (aK.out _ dK.out) (fun hHeld=>?_)
   clear hK K
   refine tq 11 ?_
   refine tq 12 ?_
   refine tq 13 ?_
   try simp only [PT]
   exact wpAnyH_cast (by kernel_rfl) (dF sm Am nm cm tm Bm mm dm smb Amb nmb cmb tmb Bmb mmb dmb v22 dK eP)
   refine .cons rfl (fun K hK=>?_) .nil
   go_simp
   have dL:=hJ ((Below.refl v15.heap.size v15).alloc (Nat.le_refl _) (.cells #[.bool false,.slice none 0 0,.bool false,.slice none 0 0,.bool false,.slice none 0 0,.bool false,.slice none 0 0] 29))
   have cQ:=hJ (BX.lit v15 29 #[.bool false,.slice none 0 0,.bool false,.slice none 0 0,.bool false,.slice none 0 0,.bool false,.slice none 0 0])
   obtain ⟨v23,hV⟩:=nmz (World.alloc v15 (.cells #[.bool false,.slice none 0 0,.bool false,.slice none 0 0,.bool false,.slice none 0 0,.bool false,.slice none 0 0] 29))
   obtain ⟨aA,hg⟩:=nmz (v15.heap.size)
   rw [hV] at dL cQ ⊢
   rw [hg] at cQ ⊢
   have eQ:=hJ (show v14.heap.size≤aA by rw [←hg]; exact aX.out.size)
   clear hV hg
   have dM:=hJ (bt aX.out dL.out)
   clear hHeld
   refine hK.out _ _ (aK.out _ dM.out) (fun hHeld=>?_)
   clear hK K
   try simp only [PT]
   exact wpAnyH_cast (by kernel_rfl) (dH aA v23 dM cQ eQ)
  ·(try rw [show ((6:Nat):Int)=6 from rfl])
   go_wp2_with fail
   refine (lives6_any wl6).mono ?_
   rintro e w24 ⟨rfl,hb⟩
   have eR:=hJ hb
   clear hb
   have eS:=hJ (bt (bt (bt (bt (bt dN.out cR.out) bW.out) cU.out) bA.out) eR.out)
   go_wp2
   go_ret
   exact ⟨rfl,eS.out⟩
theorem exactTriangles_law (a0:Option Addr) (len0 cap0:Nat) (z0:List Int) (w:World) (w0:RowI .i64 w a0 len0 cap0 z0) :
  Calls Tryz.prog 7 #[.slice a0 len0 cap0] w fun e w'=>e=.returned (.bool true)∧Below w.heap.size w w':=by
 obtain ⟨ls,h1,h2,h3,h4⟩:=w0.open_
 exact exactTriangles_walk a0 len0 cap0 ls w ⟨h4,by rw [h1]; exact h2,h3⟩
end Go.Proofs.YteggneaefggbmaaGreat
