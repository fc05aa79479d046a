/- The walk of the law ExactSides. -/
import Derived.Test.YteggneaefggbmaaGreatEZx
import Derived.Test.YteggneaefggbmaaGreatBU
import Derived.Test.YteggneaefggbmaaGreatEL
import Derived.Test.YteggneaefggbmaaGreatEZ
import Derived.Laws.BytesArg
namespace Go.Proofs.YteggneaefggbmaaGreat
set_option maxRecDepth 100000
set_option maxHeartbeats 12800000
open Go.RowKit
attribute [local go_sem ↓] Go.wp_at_zero Go.wp_at_succ
set_option linter.unusedVariables false
set_option linter.unusedSimpArgs false
theorem exactSides_walk (A:Option Addr) (ln c:Nat) (l:List Int) (w:World) (hg:Got w (.slice A ln c) l) :
  Calls Tryz.prog 4 #[.slice A ln c] w fun e w'=>e=.returned (.bool true)∧Below w.heap.size w w':=by
 have HG:=hJ hg
 clear hg
 go_enter Tryz.func4,Tryz.ntmps4
 go_wp2_with fail
 refine (points2_any A ln c l w HG.out).mono ?_
 rintro e w1 ⟨g,cap,xs,ys,ds,rfl,ho,hn,hb⟩
 have fG:=hJ hb
 have cV:=hJ ho
 clear hb ho
 have HN:=hJ hn.1
 clear hn
 have fH:=hJ (OwnR.lt cV.out)
 go_wp2_with fail
 refine (four2_any xs ys ds g cap w.heap.size w1 cV.out fH.out HN.out).mono ?_
 rintro e w2 ⟨gq,cpq,U,rfl,ho,hl,hf,hb⟩
 have dR:=hJ hb
 have fI:=hJ ho
 have fJ:=hJ hf
 clear hb ho hf
 clear hl
 go_wp2_with fail
 go_loopw [6] (fun tv wr=>∃ i:Nat,i≤64∧tv=.int .i64 (i:Int)∧Below w2.heap.size w2 wr) (fun tv _=>64 - (intOf tv).toNat)
 case atStart=>exact ⟨0,by omega,rfl,Below.refl _ _⟩
 case round =>
  obtain ⟨i3,hi,rfl,hbel⟩:=hrel
  obtain ⟨wl3,rfl⟩:∃ W:World,W=wr:=⟨_,rfl⟩
  have aZ:=hJ hbel
  clear hbel
  rcases (show i3 < 64∨i3=64 by omega) with hlt | rfl
  ·have h0i:(0:Int)≤(i3:Int):=by omega
   have hli:(i3:Int) < 64:=by omega
   obtain ⟨ja,hja⟩:∃ j:Nat,i3 % 4=j:=⟨_,rfl⟩
   obtain ⟨jb,hjb⟩:∃ j:Nat,i3 / 4 % 4=j:=⟨_,rfl⟩
   obtain ⟨jc,hjc⟩:∃ j:Nat,i3 / 16=j:=⟨_,rfl⟩
   have hjl:ja < 4∧jb < 4∧jc < 4:=by omega
   have HJ:=hJ (show ((i3:Int) % 4=(ja:Int)∧(IntKind.i64.wrap ((i3:Int) / 4)=(i3:Int) / 4∧(i3:Int) / 4 % 4=(jb:Int)))∧(IntKind.i64.wrap ((i3:Int) / 16)=(jc:Int)∧((i3:Int) / 16=(jc:Int))) from ⟨⟨by omega,IntWalk.i64_in _ (by omega),by omega⟩,by rw [show (i3:Int) / 16=(jc:Int) by omega]; exact IntWalk.i64_in _ (by omega),by omega⟩)
   have bF:=hJ (show (0:Int)≤(ja:Int)∧(ja:Int) < 4 by omega)
   have bG:=hJ (show (0:Int)≤(jb:Int)∧(jb:Int) < 4 by omega)
   have bH:=hJ (show (0:Int)≤(jc:Int)∧(jc:Int) < 4 by omega)
   have aH:=hJ hjl.1
   have aI:=hJ hjl.2.1
   have aJ:=hJ hjl.2.2
   clear hja hjb hjc hjl
   have cW:=hJ (rowR_get xs ys ds aH.out)
   have aR:=hJ (rowQ_get U aH.out)
   have dS:=hJ cW.out.1
   have dT:=hJ cW.out.2.1
   have dU:=hJ cW.out.2.2
   have bJ:=hJ aR.out.1
   have bK:=hJ aR.out.2.1
   have bL:=hJ aR.out.2.2.1
   have bM:=hJ aR.out.2.2.2.1
   have bN:=hJ aR.out.2.2.2.2.1
   have bO:=hJ aR.out.2.2.2.2.2.1
   have bP:=hJ aR.out.2.2.2.2.2.2.1
   have bQ:=hJ aR.out.2.2.2.2.2.2.2
   have cX:=hJ (rowR_get xs ys ds aI.out)
   have aS:=hJ (rowQ_get U aI.out)
   have dW:=hJ cX.out.1
   have dX:=hJ cX.out.2.1
   have dY:=hJ cX.out.2.2
   have bR:=hJ aS.out.1
   have bS:=hJ aS.out.2.1
   have bT:=hJ aS.out.2.2.1
   have bU:=hJ aS.out.2.2.2.1
   have bV:=hJ aS.out.2.2.2.2.1
   have bW:=hJ aS.out.2.2.2.2.2.1
   have bX:=hJ aS.out.2.2.2.2.2.2.1
   have bY:=hJ aS.out.2.2.2.2.2.2.2
   have cY:=hJ (rowR_get xs ys ds aJ.out)
   have aT:=hJ (rowQ_get U aJ.out)
   have dZ:=hJ cY.out.1
   have eA:=hJ cY.out.2.1
   have eB:=hJ cY.out.2.2
   have bZ:=hJ aT.out.1
   have cA:=hJ aT.out.2.1
   have cB:=hJ aT.out.2.2.1
   have cC:=hJ aT.out.2.2.2.1
   have cD:=hJ aT.out.2.2.2.2.1
   have cE:=hJ aT.out.2.2.2.2.2.1
   have cF:=hJ aT.out.2.2.2.2.2.2.1
   have cG:=hJ aT.out.2.2.2.2.2.2.2
   obtain ⟨P,hP⟩:=nmz (mkP (arN (xs ja) (ys ja) (ds ja) (xs jb) (ys jb) (ds jb) (xs jc) (ys jc) (ds jc)) ((ds ja)*(ds ja)*(ds jb)*(ds jc)))
   obtain ⟨Q,hQ⟩:=nmz (mkQ (arN (xs ja) (ys ja) (ds ja) (xs jb) (ys jb) (ds jb) (xs jc) (ys jc) (ds jc)) ((ds ja)*(ds ja)*(ds jb)*(ds jc)))
   obtain ⟨sg,hsg⟩:=nmz (cmpI (arN (xs ja) (ys ja) (ds ja) (xs jb) (ys jb) (ds jb) (xs jc) (ys jc) (ds jc)) 0)
   obtain ⟨sn,hsn⟩:=nmz (-sg)
   have aM:=hJ (show Fr P Q by rw [←hP,←hQ]; exact ar_fr (HN.out ja aH.out) (HN.out jb aI.out) (HN.out jc aJ.out))
   have cH:=hJ (show (smV P=P∧isSm P=true)∧(smV Q=Q∧isSm Q=true) by rw [←hP,←hQ]; exact ⟨sm_i6 (ar_fit (HN.out ja aH.out) (HN.out jb aI.out) (HN.out jc aJ.out)).2.1,sm_i6 (ar_fit (HN.out ja aH.out) (HN.out jb aI.out) (HN.out jc aJ.out)).2.2⟩)
   have fK:=hJ (show cmpI P 0=sg by rw [←hP,←hsg]; exact ar_sgn (HN.out ja aH.out) (HN.out jb aI.out) (HN.out jc aJ.out))
   have cI:=hJ (show mkP (arN (xs jb) (ys jb) (ds jb) (xs jc) (ys jc) (ds jc) (xs ja) (ys ja) (ds ja)) ((ds jb)*(ds jb)*(ds jc)*(ds ja))=P∧mkQ (arN (xs jb) (ys jb) (ds jb) (xs jc) (ys jc) (ds jc) (xs ja) (ys ja) (ds ja)) ((ds jb)*(ds jb)*(ds jc)*(ds ja))=Q by rw [←hP,←hQ]; exact ar_cyc9 (HN.out ja aH.out) (HN.out jb aI.out) (HN.out jc aJ.out))
   have fL:=hJ (show cmpI (arN (xs jb) (ys jb) (ds jb) (xs ja) (ys ja) (ds ja) (xs jc) (ys jc) (ds jc)) 0=sn by rw [←hsn,←hsg]; exact ar_swap9 (HN.out ja aH.out) (HN.out jb aI.out))
   have fM:=hJ (show IntKind.i64.wrap (-sg)=sn by rw [←hsn,←hsg]; exact cm_wrap _)
   have cZ:=hJ hP
   have dA:=hJ hQ
   have eC:=hJ hsg
   clear hP hQ hsg hsn
   have hma1:=HJ.out.1.1
   have hma2:=bF.out.1
   have hma3:=bF.out.2
   have hmb1:=HJ.out.1.2.1
   have hmb4:=HJ.out.1.2.2
   have hmb2:=bG.out.1
   have hmb3:=bG.out.2
   have hmb5:(0:Int)≤(i3:Int) / 4:=by omega
   have hmc1:=HJ.out.2.1
   have hmc4:=HJ.out.2.2
   have hmc2:=bH.out.1
   have hmc3:=bH.out.2
   have hjap:=bF.out.1
   have hjaq:=bF.out.2
   have hjbp:=bG.out.1
   have hjbq:=bG.out.2
   have hjcp:=bH.out.1
   have hjcq:=bH.out.2
   have aC:=hJ (OwnR.new fI.out aZ.out)
   have eD:Hid (∀ w',Below wl3.heap.size wl3 w'→(fun w':World=>w'.cell? ⟨gq,ja*8,none⟩=some ((U ja 0))∧w'.cell? ⟨gq,ja*8+1,none⟩=some ((U ja 1))∧w'.cell? ⟨gq,ja*8+2,none⟩=some ((U ja 2))∧w'.cell? ⟨gq,ja*8+3,none⟩=some ((U ja 3))∧w'.cell? ⟨gq,ja*8+4,none⟩=some ((U ja 4))∧w'.cell? ⟨gq,ja*8+5,none⟩=some ((U ja 5))∧w'.cell? ⟨gq,ja*8+6,none⟩=some ((U ja 6))∧w'.cell? ⟨gq,ja*8+7,none⟩=some ((U ja 7))∧w'.cell? ⟨gq,jb*8,none⟩=some ((U jb 0))∧w'.cell? ⟨gq,jb*8+1,none⟩=some ((U jb 1))∧w'.cell? ⟨gq,jb*8+2,none⟩=some ((U jb 2))∧w'.cell? ⟨gq,jb*8+3,none⟩=some ((U jb 3))∧w'.cell? ⟨gq,jb*8+4,none⟩=some ((U jb 4))∧w'.cell? ⟨gq,jb*8+5,none⟩=some ((U jb 5))∧w'.cell? ⟨gq,jb*8+6,none⟩=some ((U jb 6))∧w'.cell? ⟨gq,jb*8+7,none⟩=some ((U jb 7))∧w'.cell? ⟨gq,jc*8,none⟩=some ((U jc 0))∧w'.cell? ⟨gq,jc*8+1,none⟩=some ((U jc 1))∧w'.cell? ⟨gq,jc*8+2,none⟩=some ((U jc 2))∧w'.cell? ⟨gq,jc*8+3,none⟩=some ((U jc 3))∧w'.cell? ⟨gq,jc*8+4,none⟩=some ((U jc 4))∧w'.cell? ⟨gq,jc*8+5,none⟩=some ((U jc 5))∧w'.cell? ⟨gq,jc*8+6,none⟩=some ((U jc 6))∧w'.cell? ⟨gq,jc*8+7,none⟩=some ((U jc 7))∧Below wl3.heap.size wl3 w') w'):=hJ (fun w' hb=>⟨(OwnR.new aC.out hb).at (ja*8) bJ.out,(OwnR.new aC.out hb).at (ja*8+1) bK.out,(OwnR.new aC.out hb).at (ja*8+2) bL.out,(OwnR.new aC.out hb).at (ja*8+3) bM.out,(OwnR.new aC.out hb).at (ja*8+4) bN.out,(OwnR.new aC.out hb).at (ja*8+5) bO.out,(OwnR.new aC.out hb).at (ja*8+6) bP.out,(OwnR.new aC.out hb).at (ja*8+7) bQ.out,(OwnR.new aC.out hb).at (jb*8) bR.out,(OwnR.new aC.out hb).at (jb*8+1) bS.out,(OwnR.new aC.out hb).at (jb*8+2) bT.out,(OwnR.new aC.out hb).at (jb*8+3) bU.out,(OwnR.new aC.out hb).at (jb*8+4) bV.out,(OwnR.new aC.out hb).at (jb*8+5) bW.out,(OwnR.new aC.out hb).at (jb*8+6) bX.out,(OwnR.new aC.out hb).at (jb*8+7) bY.out,(OwnR.new aC.out hb).at (jc*8) bZ.out,(OwnR.new aC.out hb).at (jc*8+1) cA.out,(OwnR.new aC.out hb).at (jc*8+2) cB.out,(OwnR.new aC.out hb).at (jc*8+3) cC.out,(OwnR.new aC.out hb).at (jc*8+4) cD.out,(OwnR.new aC.out hb).at (jc*8+5) cE.out,(OwnR.new aC.out hb).at (jc*8+6) cF.out,(OwnR.new aC.out hb).at (jc*8+7) cG.out,hb⟩)
   have cJ:=hJ (LF.new fJ.out aZ.out)
   go_wp2_with fail
   clear hma1 hma2 hma3 hmb1 hmb2 hmb3 hmb4 hmb5 hmc1 hmc2 hmc3 hmc4
   obtain ⟨v4,hv4⟩:=nmz (World.drew wl3)
   have cK:=hJ (show Below wl3.heap.size wl3 v4 by rw [←hv4]; exact (Below.refl _ _).drew)
   refine whd eD hv4 (fun hHeld=>?_)
   clear hv4
   refine tq 0 ?_
   refine tq 1 ?_
   refine tq 2 ?_
   refine tq 3 ?_
   refine tq 4 ?_
   refine tq 5 ?_
   refine tq 6 ?_
   refine tq 7 ?_
   refine tq 8 ?_
   refine tq 9 ?_
   refine tq 10 ?_
   refine tq 11 ?_
   try simp only [PT]
   refine ryy [12] ?_
   refine .cons rfl (fun K hK=>?_) .nil
   go_simp
   go_at_call 31
   refine (sidev_any v4 ((LF.new cJ.out cK.out) ja aH.out) ((LF.new cJ.out cK.out) jb aI.out) ((LF.new cJ.out cK.out) jc aJ.out) (pq_pz (HN.out ja aH.out)) (pq_pz (HN.out jb aI.out)) (pq_pz (HN.out jc aJ.out))).mono ?_
   rw [eC.out]
   rintro e v5 ⟨rfl,hb⟩
   have fN:=hJ hb
   clear hb
   go_wp2_with fail
   have bA:=hJ (bt cK.out fN.out)
   clear hHeld
   refine hK.out _ _ (eD.out _ bA.out) (fun hHeld=>?_)
   clear hK K
   refine tq 13 ?_
   refine tq 14 ?_
   refine tq 15 ?_
   refine tq 16 ?_
   refine tq 17 ?_
   try simp only [PT]
   refine wpAnyH_done (by kernel_rfl) ?_ _
   clear hHeld
   have aD:=hJ (OwnR.new aC.out bA.out)
   have aO:Hid (∀ w',Below v5.heap.size v5 w'→(fun w':World=>w'.cell? ⟨gq,ja*8,none⟩=some ((U ja 0))∧w'.cell? ⟨gq,ja*8+1,none⟩=some ((U ja 1))∧w'.cell? ⟨gq,ja*8+2,none⟩=some ((U ja 2))∧w'.cell? ⟨gq,ja*8+3,none⟩=some ((U ja 3))∧w'.cell? ⟨gq,ja*8+4,none⟩=some ((U ja 4))∧w'.cell? ⟨gq,ja*8+5,none⟩=some ((U ja 5))∧w'.cell? ⟨gq,ja*8+6,none⟩=some ((U ja 6))∧w'.cell? ⟨gq,ja*8+7,none⟩=some ((U ja 7))∧w'.cell? ⟨gq,jb*8,none⟩=some ((U jb 0))∧w'.cell? ⟨gq,jb*8+1,none⟩=some ((U jb 1))∧w'.cell? ⟨gq,jb*8+2,none⟩=some ((U jb 2))∧w'.cell? ⟨gq,jb*8+3,none⟩=some ((U jb 3))∧w'.cell? ⟨gq,jb*8+4,none⟩=some ((U jb 4))∧w'.cell? ⟨gq,jb*8+5,none⟩=some ((U jb 5))∧w'.cell? ⟨gq,jb*8+6,none⟩=some ((U jb 6))∧w'.cell? ⟨gq,jb*8+7,none⟩=some ((U jb 7))∧w'.cell? ⟨gq,jc*8,none⟩=some ((U jc 0))∧w'.cell? ⟨gq,jc*8+1,none⟩=some ((U jc 1))∧w'.cell? ⟨gq,jc*8+2,none⟩=some ((U jc 2))∧w'.cell? ⟨gq,jc*8+3,none⟩=some ((U jc 3))∧w'.cell? ⟨gq,jc*8+4,none⟩=some ((U jc 4))∧w'.cell? ⟨gq,jc*8+5,none⟩=some ((U jc 5))∧w'.cell? ⟨gq,jc*8+6,none⟩=some ((U jc 6))∧w'.cell? ⟨gq,jc*8+7,none⟩=some ((U jc 7))∧Below v5.heap.size v5 w') w'):=hJ (fun w' hb=>⟨(OwnR.new aD.out hb).at (ja*8) bJ.out,(OwnR.new aD.out hb).at (ja*8+1) bK.out,(OwnR.new aD.out hb).at (ja*8+2) bL.out,(OwnR.new aD.out hb).at (ja*8+3) bM.out,(OwnR.new aD.out hb).at (ja*8+4) bN.out,(OwnR.new aD.out hb).at (ja*8+5) bO.out,(OwnR.new aD.out hb).at (ja*8+6) bP.out,(OwnR.new aD.out hb).at (ja*8+7) bQ.out,(OwnR.new aD.out hb).at (jb*8) bR.out,(OwnR.new aD.out hb).at (jb*8+1) bS.out,(OwnR.new aD.out hb).at (jb*8+2) bT.out,(OwnR.new aD.out hb).at (jb*8+3) bU.out,(OwnR.new aD.out hb).at (jb*8+4) bV.out,(OwnR.new aD.out hb).at (jb*8+5) bW.out,(OwnR.new aD.out hb).at (jb*8+6) bX.out,(OwnR.new aD.out hb).at (jb*8+7) bY.out,(OwnR.new aD.out hb).at (jc*8) bZ.out,(OwnR.new aD.out hb).at (jc*8+1) cA.out,(OwnR.new aD.out hb).at (jc*8+2) cB.out,(OwnR.new aD.out hb).at (jc*8+3) cC.out,(OwnR.new aD.out hb).at (jc*8+4) cD.out,(OwnR.new aD.out hb).at (jc*8+5) cE.out,(OwnR.new aD.out hb).at (jc*8+6) cF.out,(OwnR.new aD.out hb).at (jc*8+7) cG.out,hb⟩)
   have aU:=hJ (LF.new cJ.out bA.out)
   go_wp2_with fail
   obtain ⟨v6,hv6⟩:=nmz (World.drew v5)
   have aW:=hJ (show Below v5.heap.size v5 v6 by rw [←hv6]; exact (Below.refl _ _).drew)
   refine whd aO hv6 (fun hHeld=>?_)
   clear hv6
   refine tq 0 ?_
   refine tq 1 ?_
   refine tq 2 ?_
   refine tq 3 ?_
   refine tq 4 ?_
   refine tq 5 ?_
   refine tq 6 ?_
   refine tq 7 ?_
   refine tq 8 ?_
   refine tq 9 ?_
   refine tq 10 ?_
   refine tq 11 ?_
   try simp only [PT]
   refine wpAnyH_name (fun F hF a0 ha0 L0 hL0=>?_)
   have cL:∀ (s11:Bool) (A11:Option Addr) (n11:Nat) (c11:Nat) (t11:Bool) (B11:Option Addr) (m11:Nat) (d11:Nat) (aA:Nat) (v:World),Hid (Below v5.heap.size v5 v)→Hid (PF v s11 A11 n11 c11 t11 B11 m11 d11 P Q)→Hid (BX 27 v aA #[.bool false,.slice none 0 0,.bool false,.slice none 0 0])→Hid (v5.heap.size≤aA)→F 2 (Array.setIfInBounds (Array.setIfInBounds (Array.setIfInBounds (Array.setIfInBounds (Array.setIfInBounds L0 12 true) 16 true) 13 true) 14 true) 15 true) (Act.put (Act.put (Act.put (Act.put (Act.put a0 (some 73) (.tuple #[.agg #[.bool s11,.slice A11 n11 c11,.bool t11,.slice B11 m11 d11],.int .i64 0])) (some 12) (.pointer (some ⟨aA,0,none⟩))) (some 60) (.tuple #[.agg #[.bool s11,.slice A11 n11 c11,.bool t11,.slice B11 m11 d11],.int .i64 0])) (some 74) (.agg #[.bool s11,.slice A11 n11 c11,.bool t11,.slice B11 m11 d11])) (some 75) (.int .i64 0)) v:=by
    intro s11 A11 n11 c11 t11 B11 m11 d11 aA v aE dB aK dD
    subst hF ha0 hL0
    simp only [PT] at  ⊢
    have hHeld:=aO.out _ aE.out
    refine ryy [17] ?_
    refine .cons rfl (fun K hK=>?_) .nil
    have z7_0:=aK.out.cell 0 rfl
    have y7_0:=aK.out.frozen 0
    have z7_1:=aK.out.cell 1 rfl
    have y7_1:=aK.out.frozen 1
    have z7_2:=aK.out.cell 2 rfl
    have y7_2:=aK.out.frozen 2
    have z7_3:=aK.out.cell 3 rfl
    have y7_3:=aK.out.frozen 3
    have z7:=aK.out.lt
    go_simp
    obtain ⟨v7,hV⟩:=nmz (World.setCell (World.setCell (World.setCell (World.setCell v ⟨aA,0,none⟩ (.bool s11)) ⟨aA,1,none⟩ (.slice A11 n11 c11)) ⟨aA,2,none⟩ (.bool t11)) ⟨aA,3,none⟩ (.slice B11 m11 d11))
    rw [hV]
    have dE:=hJ (show sto v aA 0 [.bool s11,.slice A11 n11 c11,.bool t11,.slice B11 m11 d11]=v7 from hV)
    clear hV z7 z7_0 y7_0 z7_1 y7_1 z7_2 y7_2 z7_3 y7_3
    have bB:=hJ (show Below v5.heap.size v5 v7 by rw [←dE.out]; exact below_sto aE.out dD.out _ _)
    have fO:=hJ (show PF v7 s11 A11 n11 c11 t11 B11 m11 d11 P Q by rw [←dE.out]; exact PF.sto dB.out aK.out rfl _ _)
    have fP:=hJ (show BX 27 v7 aA #[.bool s11,.slice A11 n11 c11,.bool t11,.slice B11 m11 d11] by rw [←dE.out]; exact BX.put aK.out _ _)
    clear hHeld
    refine hK.out _ _ (aO.out _ bB.out) (fun hHeld=>?_)
    clear hK K
    refine tq 18 ?_
    try simp only [PT]
    refine wpAnyH_done (by kernel_rfl) ?_ _
    clear hHeld
    have aF:=hJ (OwnR.new aD.out bB.out)
    have aP:Hid (∀ w',Below v7.heap.size v7 w'→(fun w':World=>w'.cell? ⟨gq,jb*8,none⟩=some ((U jb 0))∧w'.cell? ⟨gq,jb*8+1,none⟩=some ((U jb 1))∧w'.cell? ⟨gq,jb*8+2,none⟩=some ((U jb 2))∧w'.cell? ⟨gq,jb*8+3,none⟩=some ((U jb 3))∧w'.cell? ⟨gq,jb*8+4,none⟩=some ((U jb 4))∧w'.cell? ⟨gq,jb*8+5,none⟩=some ((U jb 5))∧w'.cell? ⟨gq,jb*8+6,none⟩=some ((U jb 6))∧w'.cell? ⟨gq,jb*8+7,none⟩=some ((U jb 7))∧w'.cell? ⟨gq,jc*8,none⟩=some ((U jc 0))∧w'.cell? ⟨gq,jc*8+1,none⟩=some ((U jc 1))∧w'.cell? ⟨gq,jc*8+2,none⟩=some ((U jc 2))∧w'.cell? ⟨gq,jc*8+3,none⟩=some ((U jc 3))∧w'.cell? ⟨gq,jc*8+4,none⟩=some ((U jc 4))∧w'.cell? ⟨gq,jc*8+5,none⟩=some ((U jc 5))∧w'.cell? ⟨gq,jc*8+6,none⟩=some ((U jc 6))∧w'.cell? ⟨gq,jc*8+7,none⟩=some ((U jc 7))∧w'.cell? ⟨gq,ja*8,none⟩=some ((U ja 0))∧w'.cell? ⟨gq,ja*8+1,none⟩=some ((U ja 1))∧w'.cell? ⟨gq,ja*8+2,none⟩=some ((U ja 2))∧w'.cell? ⟨gq,ja*8+3,none⟩=some ((U ja 3))∧w'.cell? ⟨gq,ja*8+4,none⟩=some ((U ja 4))∧w'.cell? ⟨gq,ja*8+5,none⟩=some ((U ja 5))∧w'.cell? ⟨gq,ja*8+6,none⟩=some ((U ja 6))∧w'.cell? ⟨gq,ja*8+7,none⟩=some ((U ja 7))∧Below v7.heap.size v7 w') w'):=hJ (fun w' hb=>⟨(OwnR.new aF.out hb).at (jb*8) bR.out,(OwnR.new aF.out hb).at (jb*8+1) bS.out,(OwnR.new aF.out hb).at (jb*8+2) bT.out,(OwnR.new aF.out hb).at (jb*8+3) bU.out,(OwnR.new aF.out hb).at (jb*8+4) bV.out,(OwnR.new aF.out hb).at (jb*8+5) bW.out,(OwnR.new aF.out hb).at (jb*8+6) bX.out,(OwnR.new aF.out hb).at (jb*8+7) bY.out,(OwnR.new aF.out hb).at (jc*8) bZ.out,(OwnR.new aF.out hb).at (jc*8+1) cA.out,(OwnR.new aF.out hb).at (jc*8+2) cB.out,(OwnR.new aF.out hb).at (jc*8+3) cC.out,(OwnR.new aF.out hb).at (jc*8+4) cD.out,(OwnR.new aF.out hb).at (jc*8+5) cE.out,(OwnR.new aF.out hb).at (jc*8+6) cF.out,(OwnR.new aF.out hb).at (jc*8+7) cG.out,(OwnR.new aF.out hb).at (ja*8) bJ.out,(OwnR.new aF.out hb).at (ja*8+1) bK.out,(OwnR.new aF.out hb).at (ja*8+2) bL.out,(OwnR.new aF.out hb).at (ja*8+3) bM.out,(OwnR.new aF.out hb).at (ja*8+4) bN.out,(OwnR.new aF.out hb).at (ja*8+5) bO.out,(OwnR.new aF.out hb).at (ja*8+6) bP.out,(OwnR.new aF.out hb).at (ja*8+7) bQ.out,hb⟩)
    have aV:=hJ (LF.new aU.out bB.out)
    go_wp2_with fail
    obtain ⟨v9,hv9⟩:=nmz (World.drew v7)
    have aX:=hJ (show Below v7.heap.size v7 v9 by rw [←hv9]; exact (Below.refl _ _).drew)
    refine whd aP hv9 (fun hHeld=>?_)
    clear hv9
    refine tq 0 ?_
    refine tq 1 ?_
    refine tq 2 ?_
    refine tq 3 ?_
    refine tq 4 ?_
    refine tq 5 ?_
    refine tq 6 ?_
    refine tq 7 ?_
    refine tq 8 ?_
    refine tq 9 ?_
    refine tq 10 ?_
    refine tq 11 ?_
    try simp only [PT]
    refine wpAnyH_name (fun F hF a0 ha0 L0 hL0=>?_)
    have cM:∀ (s12:Bool) (A12:Option Addr) (n12:Nat) (c12:Nat) (t12:Bool) (B12:Option Addr) (m12:Nat) (d12:Nat) (aB:Nat) (v:World),Hid (Below v7.heap.size v7 v)→Hid (PF v s12 A12 n12 c12 t12 B12 m12 d12 P Q)→Hid (BX 27 v aB #[.bool false,.slice none 0 0,.bool false,.slice none 0 0])→Hid (v7.heap.size≤aB)→F 2 (Array.setIfInBounds (Array.setIfInBounds (Array.setIfInBounds (Array.setIfInBounds (Array.setIfInBounds L0 12 true) 16 true) 13 true) 14 true) 15 true) (Act.put (Act.put (Act.put (Act.put (Act.put a0 (some 89) (.tuple #[.agg #[.bool s12,.slice A12 n12 c12,.bool t12,.slice B12 m12 d12],.int .i64 0])) (some 14) (.pointer (some ⟨aB,0,none⟩))) (some 76) (.tuple #[.agg #[.bool s12,.slice A12 n12 c12,.bool t12,.slice B12 m12 d12],.int .i64 0])) (some 90) (.agg #[.bool s12,.slice A12 n12 c12,.bool t12,.slice B12 m12 d12])) (some 91) (.int .i64 0)) v:=by
     intro s12 A12 n12 c12 t12 B12 m12 d12 aB v aE dF aL dG
     subst hF ha0 hL0
     simp only [PT] at  ⊢
     have hHeld:=aP.out _ aE.out
     refine ryy [17] ?_
     refine .cons rfl (fun K hK=>?_) .nil
     have z10_0:=aL.out.cell 0 rfl
     have y10_0:=aL.out.frozen 0
     have z10_1:=aL.out.cell 1 rfl
     have y10_1:=aL.out.frozen 1
     have z10_2:=aL.out.cell 2 rfl
     have y10_2:=aL.out.frozen 2
     have z10_3:=aL.out.cell 3 rfl
     have y10_3:=aL.out.frozen 3
     have z10:=aL.out.lt
     go_simp
     obtain ⟨v10,hV⟩:=nmz (World.setCell (World.setCell (World.setCell (World.setCell v ⟨aB,0,none⟩ (.bool s12)) ⟨aB,1,none⟩ (.slice A12 n12 c12)) ⟨aB,2,none⟩ (.bool t12)) ⟨aB,3,none⟩ (.slice B12 m12 d12))
     rw [hV]
     have dH:=hJ (show sto v aB 0 [.bool s12,.slice A12 n12 c12,.bool t12,.slice B12 m12 d12]=v10 from hV)
     clear hV z10 z10_0 y10_0 z10_1 y10_1 z10_2 y10_2 z10_3 y10_3
     have aY:=hJ (show Below v7.heap.size v7 v10 by rw [←dH.out]; exact below_sto aE.out dG.out _ _)
     have fQ:=hJ (show PF v10 s12 A12 n12 c12 t12 B12 m12 d12 P Q by rw [←dH.out]; exact PF.sto dF.out aL.out rfl _ _)
     have fR:=hJ (show BX 27 v10 aB #[.bool s12,.slice A12 n12 c12,.bool t12,.slice B12 m12 d12] by rw [←dH.out]; exact BX.put aL.out _ _)
     clear hHeld
     refine hK.out _ _ (aP.out _ aY.out) (fun hHeld=>?_)
     clear hK K
     refine tq 18 ?_
     try simp only [PT]
     refine wpAnyH_done (by kernel_rfl) ?_ _
     clear hHeld
     have aG:=hJ (OwnR.new aF.out aY.out)
     have eE:Hid (∀ w',Below v10.heap.size v10 w'→(fun w':World=>w'.cell? ⟨gq,jb*8,none⟩=some ((U jb 0))∧w'.cell? ⟨gq,jb*8+1,none⟩=some ((U jb 1))∧w'.cell? ⟨gq,jb*8+2,none⟩=some ((U jb 2))∧w'.cell? ⟨gq,jb*8+3,none⟩=some ((U jb 3))∧w'.cell? ⟨gq,jb*8+4,none⟩=some ((U jb 4))∧w'.cell? ⟨gq,jb*8+5,none⟩=some ((U jb 5))∧w'.cell? ⟨gq,jb*8+6,none⟩=some ((U jb 6))∧w'.cell? ⟨gq,jb*8+7,none⟩=some ((U jb 7))∧w'.cell? ⟨gq,ja*8,none⟩=some ((U ja 0))∧w'.cell? ⟨gq,ja*8+1,none⟩=some ((U ja 1))∧w'.cell? ⟨gq,ja*8+2,none⟩=some ((U ja 2))∧w'.cell? ⟨gq,ja*8+3,none⟩=some ((U ja 3))∧w'.cell? ⟨gq,ja*8+4,none⟩=some ((U ja 4))∧w'.cell? ⟨gq,ja*8+5,none⟩=some ((U ja 5))∧w'.cell? ⟨gq,ja*8+6,none⟩=some ((U ja 6))∧w'.cell? ⟨gq,ja*8+7,none⟩=some ((U ja 7))∧w'.cell? ⟨gq,jc*8,none⟩=some ((U jc 0))∧w'.cell? ⟨gq,jc*8+1,none⟩=some ((U jc 1))∧w'.cell? ⟨gq,jc*8+2,none⟩=some ((U jc 2))∧w'.cell? ⟨gq,jc*8+3,none⟩=some ((U jc 3))∧w'.cell? ⟨gq,jc*8+4,none⟩=some ((U jc 4))∧w'.cell? ⟨gq,jc*8+5,none⟩=some ((U jc 5))∧w'.cell? ⟨gq,jc*8+6,none⟩=some ((U jc 6))∧w'.cell? ⟨gq,jc*8+7,none⟩=some ((U jc 7))∧Below v10.heap.size v10 w') w'):=hJ (fun w' hb=>⟨(OwnR.new aG.out hb).at (jb*8) bR.out,(OwnR.new aG.out hb).at (jb*8+1) bS.out,(OwnR.new aG.out hb).at (jb*8+2) bT.out,(OwnR.new aG.out hb).at (jb*8+3) bU.out,(OwnR.new aG.out hb).at (jb*8+4) bV.out,(OwnR.new aG.out hb).at (jb*8+5) bW.out,(OwnR.new aG.out hb).at (jb*8+6) bX.out,(OwnR.new aG.out hb).at (jb*8+7) bY.out,(OwnR.new aG.out hb).at (ja*8) bJ.out,(OwnR.new aG.out hb).at (ja*8+1) bK.out,(OwnR.new aG.out hb).at (ja*8+2) bL.out,(OwnR.new aG.out hb).at (ja*8+3) bM.out,(OwnR.new aG.out hb).at (ja*8+4) bN.out,(OwnR.new aG.out hb).at (ja*8+5) bO.out,(OwnR.new aG.out hb).at (ja*8+6) bP.out,(OwnR.new aG.out hb).at (ja*8+7) bQ.out,(OwnR.new aG.out hb).at (jc*8) bZ.out,(OwnR.new aG.out hb).at (jc*8+1) cA.out,(OwnR.new aG.out hb).at (jc*8+2) cB.out,(OwnR.new aG.out hb).at (jc*8+3) cC.out,(OwnR.new aG.out hb).at (jc*8+4) cD.out,(OwnR.new aG.out hb).at (jc*8+5) cE.out,(OwnR.new aG.out hb).at (jc*8+6) cF.out,(OwnR.new aG.out hb).at (jc*8+7) cG.out,hb⟩)
     have dI:=hJ (LF.new aV.out aY.out)
     go_wp2_with fail
     obtain ⟨v12,hv12⟩:=nmz (World.drew v10)
     have cN:=hJ (show Below v10.heap.size v10 v12 by rw [←hv12]; exact (Below.refl _ _).drew)
     refine whd eE hv12 (fun hHeld=>?_)
     clear hv12
     refine tq 0 ?_
     refine tq 1 ?_
     refine tq 2 ?_
     refine tq 3 ?_
     refine tq 4 ?_
     refine tq 5 ?_
     refine tq 6 ?_
     refine tq 7 ?_
     refine tq 8 ?_
     refine tq 9 ?_
     refine tq 10 ?_
     refine tq 11 ?_
     try simp only [PT]
     refine ryy [12] ?_
     refine .cons rfl (fun K hK=>?_) .nil
     go_simp
     go_at_call 31
     refine (sidev_any v12 ((LF.new dI.out cN.out) jb aI.out) ((LF.new dI.out cN.out) ja aH.out) ((LF.new dI.out cN.out) jc aJ.out) (pq_pz (HN.out jb aI.out)) (pq_pz (HN.out ja aH.out)) (pq_pz (HN.out jc aJ.out))).mono ?_
     rw [fL.out]
     rintro e v13 ⟨rfl,hb⟩
     have fS:=hJ hb
     clear hb
     go_wp2_with fail
     have bC:=hJ (bt cN.out fS.out)
     clear hHeld
     refine hK.out _ _ (eE.out _ bC.out) (fun hHeld=>?_)
     clear hK K
     refine tq 13 ?_
     refine tq 14 ?_
     refine tq 15 ?_
     refine tq 16 ?_
     refine tq 17 ?_
     try simp only [PT]
     refine wpAnyH_done (by kernel_rfl) ?_ _
     clear hHeld
     have fT:=hJ (bt (bt (bt (bt (bt dR.out aZ.out) bA.out) bB.out) aY.out) bC.out)
     have aN:=hJ (OwnR.new cV.out fT.out)
     have eF:Hid (∀ w',Below v13.heap.size v13 w'→(fun w':World=>w'.cell? ⟨g,ja*3,none⟩=some (.int .i64 (xs ja))∧w'.cell? ⟨g,ja*3+1,none⟩=some (.int .i64 (ys ja))∧w'.cell? ⟨g,ja*3+2,none⟩=some (.int .i64 (ds ja))∧w'.cell? ⟨g,jb*3,none⟩=some (.int .i64 (xs jb))∧w'.cell? ⟨g,jb*3+1,none⟩=some (.int .i64 (ys jb))∧w'.cell? ⟨g,jb*3+2,none⟩=some (.int .i64 (ds jb))∧w'.cell? ⟨g,jc*3,none⟩=some (.int .i64 (xs jc))∧w'.cell? ⟨g,jc*3+1,none⟩=some (.int .i64 (ys jc))∧w'.cell? ⟨g,jc*3+2,none⟩=some (.int .i64 (ds jc))∧Below v13.heap.size v13 w') w'):=hJ (fun w' hb=>⟨(OwnR.new aN.out hb).at (ja*3) dS.out,(OwnR.new aN.out hb).at (ja*3+1) dT.out,(OwnR.new aN.out hb).at (ja*3+2) dU.out,(OwnR.new aN.out hb).at (jb*3) dW.out,(OwnR.new aN.out hb).at (jb*3+1) dX.out,(OwnR.new aN.out hb).at (jb*3+2) dY.out,(OwnR.new aN.out hb).at (jc*3) dZ.out,(OwnR.new aN.out hb).at (jc*3+1) eA.out,(OwnR.new aN.out hb).at (jc*3+2) eB.out,hb⟩)
     go_wp2_with fail
     obtain ⟨v14,hv14⟩:=nmz (World.drew v13)
     have fU:=hJ (show Below v13.heap.size v13 v14 by rw [←hv14]; exact (Below.refl _ _).drew)
     refine whd eF hv14 (fun hHeld=>?_)
     clear hv14
     refine tq 0 ?_
     refine tq 1 ?_
     refine tq 2 ?_
     refine tq 3 ?_
     refine tq 4 ?_
     refine tq 5 ?_
     refine tq 6 ?_
     refine tq 7 ?_
     refine tq 8 ?_
     refine tq 9 ?_
     refine tq 10 ?_
     refine tq 11 ?_
     try simp only [PT]
     refine ryy [12] ?_
     refine .cons rfl (fun K hK=>?_) .nil
     go_simp
     go_at_call 33
     refine (rareaq_any (xs ja) (ys ja) (ds ja) (xs jb) (ys jb) (ds jb) (xs jc) (ys jc) (ds jc) v14 (HN.out ja aH.out) (HN.out jb aI.out) (HN.out jc aJ.out)).mono ?_
     rw [cZ.out,dA.out]
     rintro e v15 ⟨rfl,hb⟩
     have fV:=hJ hb
     clear hb
     go_wp2_with fail
     have bD:=hJ (bt fU.out fV.out)
     clear hHeld
     refine hK.out _ _ (eF.out _ bD.out) (fun hHeld=>?_)
     clear hK K
     refine tq 13 ?_
     refine tq 14 ?_
     refine tq 15 ?_
     refine tq 16 ?_
     refine tq 17 ?_
     try simp only [PT]
     refine wpAnyH_done (by kernel_rfl) ?_ _
     clear hHeld
     have eG:=hJ (bt (bt aY.out bC.out) bD.out)
     have eH:=hJ (BX.new fP.out eG.out)
     obtain ⟨fW,fX,fY,fZ⟩:=eH.out.c4 0 1 2 3 rfl rfl rfl rfl
     have eI:=hJ (PF.new fO.out eG.out)
     go_wp2_with fail
     clear fW fX fY fZ
     refine (num_any P Q s11 t11 A11 B11 n11 c11 m11 d11 v15 eI.out).mono ?_
     rintro e w20 ⟨s13,A13,n13,c13,rfl,hr13,hb⟩
     have cO:=hJ hb
     have eJ:=hJ hr13
     clear hb hr13
     go_wp2_with fail
     refine (psmall_any P s13 A13 n13 c13 w20 eJ.out (Nat.le_trans (plim eJ.out aM.out.2.1) (by decide))).mono ?_
     rintro e w21 ⟨rfl,hb⟩
     have cP:=hJ hb
     clear hb
     rw [cH.out.1.1,cH.out.1.2]
     have eK:=hJ (bt cO.out cP.out)
     have eL:=hJ (BX.new eH.out eK.out)
     obtain ⟨gA,gB,gC,gD⟩:=eL.out.c4 0 1 2 3 rfl rfl rfl rfl
     have dJ:=hJ (PF.new eI.out eK.out)
     go_wp2_with fail
     clear gA gB gC gD
     refine (den_any P Q s11 t11 A11 B11 n11 c11 m11 d11 w21 dJ.out (Nat.le_trans (plim dJ.out.2 (dn_lim aM.out.2.2)) (by decide)) aM.out.1.1).mono ?_
     rintro e w26 ⟨s14,A14,n14,c14,rfl,hr14,hb⟩
     have cQ:=hJ hb
     have eM:=hJ hr14
     clear hb hr14
     go_wp2_with fail
     refine (psmall_any Q s14 A14 n14 c14 w26 eM.out (Nat.le_trans (plim eM.out aM.out.2.2) (by decide))).mono ?_
     rintro e w27 ⟨rfl,hb⟩
     have cR:=hJ hb
     clear hb
     rw [cH.out.2.1,cH.out.2.2]
     have gE:=hJ (bt (bt (bt (bt bD.out cO.out) cP.out) cQ.out) cR.out)
     have aQ:=hJ (OwnR.new aN.out gE.out)
     have eN:=hJ (bt cQ.out cR.out)
     have bE:=hJ (BX.new eL.out eN.out)
     have eO:=hJ (bt (bt (bt (bt (bt bC.out bD.out) cO.out) cP.out) cQ.out) cR.out)
     have cS:=hJ (BX.new fR.out eO.out)
     have dK:Hid (∀ w',Below w27.heap.size w27 w'→(fun w':World=>w'.cell? ⟨g,ja*3,none⟩=some (.int .i64 (xs ja))∧w'.cell? ⟨g,ja*3+1,none⟩=some (.int .i64 (ys ja))∧w'.cell? ⟨g,ja*3+2,none⟩=some (.int .i64 (ds ja))∧w'.cell? ⟨g,jb*3,none⟩=some (.int .i64 (xs jb))∧w'.cell? ⟨g,jb*3+1,none⟩=some (.int .i64 (ys jb))∧w'.cell? ⟨g,jb*3+2,none⟩=some (.int .i64 (ds jb))∧w'.cell? ⟨g,jc*3,none⟩=some (.int .i64 (xs jc))∧w'.cell? ⟨g,jc*3+1,none⟩=some (.int .i64 (ys jc))∧w'.cell? ⟨g,jc*3+2,none⟩=some (.int .i64 (ds jc))∧w'.cell? ⟨aA,0,none⟩=some (.bool s11)∧w'.cell? ⟨aA,1,none⟩=some (.slice A11 n11 c11)∧w'.cell? ⟨aA,2,none⟩=some (.bool t11)∧w'.cell? ⟨aA,3,none⟩=some (.slice B11 m11 d11)∧w'.cell? ⟨aB,0,none⟩=some (.bool s12)∧w'.cell? ⟨aB,1,none⟩=some (.slice A12 n12 c12)∧w'.cell? ⟨aB,2,none⟩=some (.bool t12)∧w'.cell? ⟨aB,3,none⟩=some (.slice B12 m12 d12)∧Below w27.heap.size w27 w') w'):=hJ (fun w' hb=>⟨(OwnR.new aQ.out hb).at (ja*3) dS.out,(OwnR.new aQ.out hb).at (ja*3+1) dT.out,(OwnR.new aQ.out hb).at (ja*3+2) dU.out,(OwnR.new aQ.out hb).at (jb*3) dW.out,(OwnR.new aQ.out hb).at (jb*3+1) dX.out,(OwnR.new aQ.out hb).at (jb*3+2) dY.out,(OwnR.new aQ.out hb).at (jc*3) dZ.out,(OwnR.new aQ.out hb).at (jc*3+1) eA.out,(OwnR.new aQ.out hb).at (jc*3+2) eB.out,(BX.new bE.out hb).cell 0 rfl,(BX.new bE.out hb).cell 1 rfl,(BX.new bE.out hb).cell 2 rfl,(BX.new bE.out hb).cell 3 rfl,(BX.new cS.out hb).cell 0 rfl,(BX.new cS.out hb).cell 1 rfl,(BX.new cS.out hb).cell 2 rfl,(BX.new cS.out hb).cell 3 rfl,hb⟩)
     have eP:=hJ (PF.new dJ.out eN.out)
     have gF:=hJ (PF.new fQ.out eO.out)
     go_wp2_with fail
     obtain ⟨v28,hv28⟩:=nmz (World.drew w27)
     have gG:=hJ (show Below w27.heap.size w27 v28 by rw [←hv28]; exact (Below.refl _ _).drew)
     refine whd dK hv28 (fun hHeld=>?_)
     clear hv28
     refine tq 0 ?_
     refine tq 1 ?_
     refine tq 2 ?_
     refine tq 3 ?_
     refine tq 4 ?_
     refine tq 5 ?_
     refine tq 6 ?_
     refine tq 7 ?_
     refine tq 8 ?_
     refine tq 9 ?_
     refine tq 10 ?_
     refine tq 11 ?_
     refine tq 12 ?_
     refine tq 13 ?_
     refine tq 14 ?_
     refine tq 15 ?_
     refine tq 16 ?_
     refine tq 17 ?_
     refine tq 18 ?_
     refine tq 19 ?_
     refine tq 20 ?_
     refine tq 21 ?_
     refine tq 22 ?_
     refine tq 23 ?_
     refine tq 24 ?_
     refine tq 25 ?_
     refine tq 26 ?_
     refine tq 27 ?_
     try simp only [PT]
     refine ryy [28] ?_
     refine .cons rfl (fun K hK=>?_) .nil
     go_simp
     go_at_call 37
     refine (rside6_any (xs ja) (ys ja) (ds ja) (xs jb) (ys jb) (ds jb) (xs jc) (ys jc) (ds jc) v28 (HN.out ja aH.out) (HN.out jb aI.out) (HN.out jc aJ.out)).mono ?_
     rw [eC.out]
     rintro e v29 ⟨rfl,hb⟩
     have gH:=hJ hb
     clear hb
     go_wp2_with fail
     have cT:=hJ (bt gG.out gH.out)
     clear hHeld
     refine hK.out _ _ (dK.out _ cT.out) (fun hHeld=>?_)
     clear hK K
     refine tq 29 ?_
     refine tq 30 ?_
     refine tq 31 ?_
     refine tq 32 ?_
     refine tq 33 ?_
     try simp only [PT]
     refine tk 34 (.int .i64 sn) ?_ ?_
     ·intro w hSw
      (try dsimp only at hSw)
      go_simp
      rw [fM.out]
     refine tq 35 ?_
     refine tq 36 ?_
     refine tq 37 ?_
     refine tq 38 ?_
     refine tq 39 ?_
     try simp only [PT]
     refine ryy [40] ?_
     refine .cons rfl (fun K hK=>?_) .nil
     go_simp
     go_at_call 38
     refine (fcompare_any P Q P Q s11 t11 s12 t12 A11 B11 A12 B12 n11 c11 m11 d11 n12 c12 m12 d12 v29 (PF.new eP.out cT.out) (PF.new gF.out cT.out) aM.out.1.1 aM.out.1.1 aM.out.2.1 aM.out.2.2 aM.out.2.1 aM.out.2.2).mono ?_
     rw [cmY_same (a:=P*Q) (b:=P*Q) rfl]
     rintro e v30 ⟨rfl,hb⟩
     have gI:=hJ hb
     clear hb
     go_wp2_with fail
     have cU:=hJ (bt cT.out gI.out)
     clear hHeld
     refine hK.out _ _ (dK.out _ cU.out) (fun hHeld=>?_)
     clear hK K
     refine tq 41 ?_
     refine tq 42 ?_
     try simp only [PT]
     refine wpAnyH_done (by kernel_rfl) ?_ _
     clear hHeld
     have gJ:=hJ (BX.new bE.out cU.out)
     obtain ⟨gK,gL,gM,gN⟩:=gJ.out.c4 0 1 2 3 rfl rfl rfl rfl
     have gO:=hJ (PF.new eP.out cU.out)
     go_wp2_with fail
     clear gK gL gM gN
     refine (fsign_any P Q s11 t11 A11 B11 n11 c11 m11 d11 v30 gO.out aM.out.2.1).mono ?_
     rw [fK.out]
     rintro e w35 ⟨rfl,hb⟩
     have gP:=hJ hb
     clear hb
     have gQ:=hJ (bt (bt (bt (bt (bt (bt (bt (bt (bt (bt (bt aZ.out bA.out) bB.out) aY.out) bC.out) bD.out) cO.out) cP.out) cQ.out) cR.out) cU.out) gP.out)
     go_wp2_with fail
     go_roundw
     case rel=>exact ⟨i3+1,by omega,by go_num,gQ.out⟩
     case measure=>simp [intOf] <;> omega
    have eQ:∀ (s12:Bool) (A12:Option Addr) (n12:Nat) (c12:Nat) (t12:Bool) (B12:Option Addr) (m12:Nat) (d12:Nat) (v:World),Hid (Below v7.heap.size v7 v)→Hid (PF v s12 A12 n12 c12 t12 B12 m12 d12 P Q)→F 3 (Array.setIfInBounds (Array.setIfInBounds (Array.setIfInBounds (Array.setIfInBounds L0 12 true) 13 true) 14 true) 15 true) (Act.put (Act.put (Act.put (Act.put a0 (some 89) (.tuple #[.agg #[.bool s12,.slice A12 n12 c12,.bool t12,.slice B12 m12 d12],.int .i64 0])) (some 76) (.tuple #[.agg #[.bool s12,.slice A12 n12 c12,.bool t12,.slice B12 m12 d12],.int .i64 0])) (some 90) (.agg #[.bool s12,.slice A12 n12 c12,.bool t12,.slice B12 m12 d12])) (some 91) (.int .i64 0)) v:=by
     intro s12 A12 n12 c12 t12 B12 m12 d12 v aE dF
     subst hF ha0 hL0
     simp only [PT] at cM ⊢
     have hHeld:=aP.out _ aE.out
     refine ryy [16] ?_
     refine .cons rfl (fun K hK=>?_) .nil
     go_simp
     have dL:=hJ ((Below.refl v.heap.size v).alloc (Nat.le_refl _) (.cells #[.bool false,.slice none 0 0,.bool false,.slice none 0 0] 27))
     have dM:=hJ (BX.lit v 27 #[.bool false,.slice none 0 0,.bool false,.slice none 0 0])
     obtain ⟨v36,hV⟩:=nmz (World.alloc v (.cells #[.bool false,.slice none 0 0,.bool false,.slice none 0 0] 27))
     obtain ⟨aB,hg⟩:=nmz (v.heap.size)
     rw [hV] at dL dM ⊢
     rw [hg] at dM ⊢
     have gR:=hJ (show v7.heap.size≤aB by rw [←hg]; exact aE.out.size)
     clear hV hg
     have eR:=hJ (bt aE.out dL.out)
     have gS:=hJ (PF.new dF.out dL.out)
     clear hHeld
     refine hK.out _ _ (aP.out _ eR.out) (fun hHeld=>?_)
     clear hK K
     try simp only [PT]
     exact wpAnyH_cast (by kernel_rfl) (cM s12 A12 n12 c12 t12 B12 m12 d12 aB v36 eR gS dM gR)
    have eS:∀ (aB:Nat) (v:World),Hid (Below v7.heap.size v7 v)→Hid (BX 27 v aB #[.bool false,.slice none 0 0,.bool false,.slice none 0 0])→Hid (v7.heap.size≤aB)→F 6 (Array.setIfInBounds L0 16 true) (Act.put a0 (some 14) (.pointer (some ⟨aB,0,none⟩))) v:=by
     intro aB v aE aL dG
     subst hF ha0 hL0
     simp only [PT] at cM ⊢
     have hHeld:=aP.out _ aE.out
     refine ryy [12] ?_
     refine .cons rfl (fun K hK=>?_) .nil
     go_simp
     go_at_call 32
     refine (areav_any v ((LF.new aV.out aE.out) jb aI.out) ((LF.new aV.out aE.out) jc aJ.out) ((LF.new aV.out aE.out) ja aH.out) (pq_pz (HN.out jb aI.out)) (pq_pz (HN.out jc aJ.out)) (pq_pz (HN.out ja aH.out))).mono ?_
     rw [cI.out.1,cI.out.2]
     rintro e v37 ⟨s12,A12,n12,c12,t12,B12,m12,d12,rfl,hr12,hb⟩
     have eT:=hJ hb
     have gT:=hJ hr12
     clear hb hr12
     go_wp2_with fail
     have eU:=hJ (bt aE.out eT.out)
     have gU:=hJ (BX.new aL.out eT.out)
     clear hHeld
     refine hK.out _ _ (aP.out _ eU.out) (fun hHeld=>?_)
     clear hK K
     refine tq 13 ?_
     refine tq 14 ?_
     refine tq 15 ?_
     try simp only [PT]
     exact wpAnyH_cast (by kernel_rfl) (cM s12 A12 n12 c12 t12 B12 m12 d12 aB v37 eU gT gU dG)
    subst hF ha0 hL0
    simp only [PT] at eQ eS
    refine ryy [12,16] ?_
    refine .cons rfl (fun K hK=>?_) ?_
    go_simp
    go_at_call 32
    refine (areav_any v9 ((LF.new aV.out aX.out) jb aI.out) ((LF.new aV.out aX.out) jc aJ.out) ((LF.new aV.out aX.out) ja aH.out) (pq_pz (HN.out jb aI.out)) (pq_pz (HN.out jc aJ.out)) (pq_pz (HN.out ja aH.out))).mono ?_
    rw [cI.out.1,cI.out.2]
    rintro e v38 ⟨s12,A12,n12,c12,t12,B12,m12,d12,rfl,hr12,hb⟩
    have gV:=hJ hb
    have gW:=hJ hr12
    clear hb hr12
    go_wp2_with fail
    have eV:=hJ (bt aX.out gV.out)
    clear hHeld
    refine hK.out _ _ (aP.out _ eV.out) (fun hHeld=>?_)
    clear hK K
    refine tq 13 ?_
    refine tq 14 ?_
    refine tq 15 ?_
    try simp only [PT]
    exact wpAnyH_cast (by kernel_rfl) (eQ s12 A12 n12 c12 t12 B12 m12 d12 v38 eV gW)
    refine .cons rfl (fun K hK=>?_) .nil
    go_simp
    have eW:=hJ ((Below.refl v9.heap.size v9).alloc (Nat.le_refl _) (.cells #[.bool false,.slice none 0 0,.bool false,.slice none 0 0] 27))
    have dN:=hJ (BX.lit v9 27 #[.bool false,.slice none 0 0,.bool false,.slice none 0 0])
    obtain ⟨v39,hV⟩:=nmz (World.alloc v9 (.cells #[.bool false,.slice none 0 0,.bool false,.slice none 0 0] 27))
    obtain ⟨aB,hg⟩:=nmz (v9.heap.size)
    rw [hV] at eW dN ⊢
    rw [hg] at dN ⊢
    have gX:=hJ (show v7.heap.size≤aB by rw [←hg]; exact aX.out.size)
    clear hV hg
    have eX:=hJ (bt aX.out eW.out)
    clear hHeld
    refine hK.out _ _ (aP.out _ eX.out) (fun hHeld=>?_)
    clear hK K
    try simp only [PT]
    exact wpAnyH_cast (by kernel_rfl) (eS aB v39 eX dN gX)
   have eY:∀ (s11:Bool) (A11:Option Addr) (n11:Nat) (c11:Nat) (t11:Bool) (B11:Option Addr) (m11:Nat) (d11:Nat) (v:World),Hid (Below v5.heap.size v5 v)→Hid (PF v s11 A11 n11 c11 t11 B11 m11 d11 P Q)→F 3 (Array.setIfInBounds (Array.setIfInBounds (Array.setIfInBounds (Array.setIfInBounds L0 12 true) 13 true) 14 true) 15 true) (Act.put (Act.put (Act.put (Act.put a0 (some 73) (.tuple #[.agg #[.bool s11,.slice A11 n11 c11,.bool t11,.slice B11 m11 d11],.int .i64 0])) (some 60) (.tuple #[.agg #[.bool s11,.slice A11 n11 c11,.bool t11,.slice B11 m11 d11],.int .i64 0])) (some 74) (.agg #[.bool s11,.slice A11 n11 c11,.bool t11,.slice B11 m11 d11])) (some 75) (.int .i64 0)) v:=by
    intro s11 A11 n11 c11 t11 B11 m11 d11 v aE dB
    subst hF ha0 hL0
    simp only [PT] at cL ⊢
    have hHeld:=aO.out _ aE.out
    refine ryy [16] ?_
    refine .cons rfl (fun K hK=>?_) .nil
    go_simp
    have dO:=hJ ((Below.refl v.heap.size v).alloc (Nat.le_refl _) (.cells #[.bool false,.slice none 0 0,.bool false,.slice none 0 0] 27))
    have dP:=hJ (BX.lit v 27 #[.bool false,.slice none 0 0,.bool false,.slice none 0 0])
    obtain ⟨v40,hV⟩:=nmz (World.alloc v (.cells #[.bool false,.slice none 0 0,.bool false,.slice none 0 0] 27))
    obtain ⟨aA,hg⟩:=nmz (v.heap.size)
    rw [hV] at dO dP ⊢
    rw [hg] at dP ⊢
    have gY:=hJ (show v5.heap.size≤aA by rw [←hg]; exact aE.out.size)
    clear hV hg
    have eZ:=hJ (bt aE.out dO.out)
    have gZ:=hJ (PF.new dB.out dO.out)
    clear hHeld
    refine hK.out _ _ (aO.out _ eZ.out) (fun hHeld=>?_)
    clear hK K
    try simp only [PT]
    exact wpAnyH_cast (by kernel_rfl) (cL s11 A11 n11 c11 t11 B11 m11 d11 aA v40 eZ gZ dP gY)
   have fA:∀ (aA:Nat) (v:World),Hid (Below v5.heap.size v5 v)→Hid (BX 27 v aA #[.bool false,.slice none 0 0,.bool false,.slice none 0 0])→Hid (v5.heap.size≤aA)→F 6 (Array.setIfInBounds L0 16 true) (Act.put a0 (some 12) (.pointer (some ⟨aA,0,none⟩))) v:=by
    intro aA v aE aK dD
    subst hF ha0 hL0
    simp only [PT] at cL ⊢
    have hHeld:=aO.out _ aE.out
    refine ryy [12] ?_
    refine .cons rfl (fun K hK=>?_) .nil
    go_simp
    go_at_call 32
    refine (areav_any v ((LF.new aU.out aE.out) ja aH.out) ((LF.new aU.out aE.out) jb aI.out) ((LF.new aU.out aE.out) jc aJ.out) (pq_pz (HN.out ja aH.out)) (pq_pz (HN.out jb aI.out)) (pq_pz (HN.out jc aJ.out))).mono ?_
    rw [cZ.out,dA.out]
    rintro e v41 ⟨s11,A11,n11,c11,t11,B11,m11,d11,rfl,hr11,hb⟩
    have fB:=hJ hb
    have hA:=hJ hr11
    clear hb hr11
    go_wp2_with fail
    have fC:=hJ (bt aE.out fB.out)
    have hB:=hJ (BX.new aK.out fB.out)
    clear hHeld
    refine hK.out _ _ (aO.out _ fC.out) (fun hHeld=>?_)
    clear hK K
    refine tq 13 ?_
    refine tq 14 ?_
    refine tq 15 ?_
    try simp only [PT]
    exact wpAnyH_cast (by kernel_rfl) (cL s11 A11 n11 c11 t11 B11 m11 d11 aA v41 fC hA hB dD)
   subst hF ha0 hL0
   simp only [PT] at eY fA
   refine ryy [12,16] ?_
   refine .cons rfl (fun K hK=>?_) ?_
   go_simp
   go_at_call 32
   refine (areav_any v6 ((LF.new aU.out aW.out) ja aH.out) ((LF.new aU.out aW.out) jb aI.out) ((LF.new aU.out aW.out) jc aJ.out) (pq_pz (HN.out ja aH.out)) (pq_pz (HN.out jb aI.out)) (pq_pz (HN.out jc aJ.out))).mono ?_
   rw [cZ.out,dA.out]
   rintro e v42 ⟨s11,A11,n11,c11,t11,B11,m11,d11,rfl,hr11,hb⟩
   have hC:=hJ hb
   have hD:=hJ hr11
   clear hb hr11
   go_wp2_with fail
   have fD:=hJ (bt aW.out hC.out)
   clear hHeld
   refine hK.out _ _ (aO.out _ fD.out) (fun hHeld=>?_)
   clear hK K
   refine tq 13 ?_
   refine tq 14 ?_
   refine tq 15 ?_
   try simp only [PT]
   exact wpAnyH_cast (by kernel_rfl) (eY s11 A11 n11 c11 t11 B11 m11 d11 v42 fD hD)
   refine .cons rfl (fun K hK=>?_) .nil
   go_simp
   have fE:=hJ ((Below.refl v6.heap.size v6).alloc (Nat.le_refl _) (.cells #[.bool false,.slice none 0 0,.bool false,.slice none 0 0] 27))
   have dQ:=hJ (BX.lit v6 27 #[.bool false,.slice none 0 0,.bool false,.slice none 0 0])
   obtain ⟨v43,hV⟩:=nmz (World.alloc v6 (.cells #[.bool false,.slice none 0 0,.bool false,.slice none 0 0] 27))
   obtain ⟨aA,hg⟩:=nmz (v6.heap.size)
   rw [hV] at fE dQ ⊢
   rw [hg] at dQ ⊢
   have hE:=hJ (show v5.heap.size≤aA by rw [←hg]; exact aW.out.size)
   clear hV hg
   have fF:=hJ (bt aW.out fE.out)
   clear hHeld
   refine hK.out _ _ (aO.out _ fF.out) (fun hHeld=>?_)
   clear hK K
   try simp only [PT]
   exact wpAnyH_cast (by kernel_rfl) (fA aA v43 fF dQ hE)
  ·(try rw [show ((64:Nat):Int)=64 from rfl])
   go_wp2_with fail
   refine (lives6_any wl3).mono ?_
   rintro e w44 ⟨rfl,hb⟩
   have hG:=hJ hb
   clear hb
   have hH:=hJ (bt (bt (bt fG.out dR.out) aZ.out) hG.out)
   go_wp2
   go_ret
   exact ⟨rfl,hH.out⟩
theorem exactSides_law (a0:Option Addr) (len0 cap0:Nat) (z0:List Int) (w:World) (w0:RowI .i64 w a0 len0 cap0 z0) :
  Calls Tryz.prog 4 #[.slice a0 len0 cap0] w fun e w'=>e=.returned (.bool true)∧Below w.heap.size w w':=by
 obtain ⟨ls,h1,h2,h3,h4⟩:=w0.open_
 exact exactSides_walk a0 len0 cap0 ls w ⟨h4,by rw [h1]; exact h2,h3⟩
end Go.Proofs.YteggneaefggbmaaGreat
