/- The walk of the law ExactBetween. -/
import Derived.Test.YteggneaefggbmaaGreatEZx
import Derived.Test.YteggneaefggbmaaGreatBU
import Derived.Test.YteggneaefggbmaaGreatEL
import Derived.Laws.BytesArg
namespace Go.Proofs.YteggneaefggbmaaGreat
set_option maxRecDepth 100000
set_option maxHeartbeats 12800000
open Go.RowKit
open OwnR (new)
attribute [local go_sem ↓] Go.wp_at_zero Go.wp_at_succ
set_option linter.unusedVariables false
set_option linter.unusedSimpArgs false
theorem exactBetween_walk (A:Option Addr) (ln c:Nat) (l:List Int) (w:World) (hg:Got w (.slice A ln c) l) :
    Calls Tryz.prog 6 #[.slice A ln c] w fun e w'=>e=.returned (.bool true)∧Below w.heap.size w w':=by
  have HG:=hJ hg
  clear hg
  go_enter Tryz.func6,Tryz.ntmps6
  go_wp2_with fail
  refine (points2_any A ln c l w HG.out).mono ?_
  rintro e w1 ⟨g,cap,xs,ys,ds,rfl,ho,hn,hb⟩
  have bB:=hJ hb
  have aF:=hJ ho
  clear hb ho
  have HN:=hJ hn.1
  have bM:=hJ hn.2.1
  have bN:=hJ hn.2.2
  clear hn
  have bE:=hJ (OwnR.ge aF.out)
  have aG:Hid (∀ w',Below w1.heap.size w1 w'→(fun w':World=>Below w.heap.size w w') w'):=hJ (fun w' hb=>(bt bB.out hb))
  go_wp2_with fail
  obtain ⟨v2,hv2⟩:=nmz (World.drew w1)
  have aH:=hJ (show Below w1.heap.size w1 v2 by rw [←hv2]; exact (Below.refl _ _).drew)
  refine whd aG hv2 (fun hHeld=>?_)
  clear hv2
  refine tq 0 ?_
  refine tq 1 ?_
  refine tq 2 ?_
  refine tq 4 ?_
  refine tq 5 ?_
  refine tq 7 ?_
  refine tq 8 ?_
  try simp only [PT]
  refine wpAnyH_name (fun F hF a0 ha0 L0 hL0=>?_)
  have dG:∀ (xm:Int) (ym:Int) (dm:Int) (xt:Int) (yt:Int) (dt:Int) (v:World),Hid (Below w1.heap.size w1 v)→Hid ((MkR ((xs 0)*(ds 1)+(xs 1)*(ds 0)) ((ys 0)*(ds 1)+(ys 1)*(ds 0)) (2*(ds 0)*(ds 1)) xm ym dm∧Nat.gcd (Nat.gcd xm.natAbs ym.natAbs) dm.natAbs=1)∧0 < dm)→Hid (Pq xm ym dm)→Hid (Qt (xs 0) (ys 0) (ds 0) (xs 1) (ys 1) (ds 1) xt yt dt∧Pq xt yt dt)→F 1 (Array.setIfInBounds (Array.setIfInBounds (Array.setIfInBounds (Array.setIfInBounds (Array.setIfInBounds (Array.setIfInBounds L0 3 true) 6 true) 9 true) 10 true) 11 true) 12 true) (Act.put (Act.put (Act.put (Act.put (Act.put (Act.put a0 (some 25) (.agg #[.int .i64 (xs 0),.int .i64 (ys 0),.int .i64 (ds 0)])) (some 28) (.agg #[.int .i64 (xs 0),.int .i64 (ys 0),.int .i64 (ds 0)])) (some 31) (.agg #[.int .i64 (xs 1),.int .i64 (ys 1),.int .i64 (ds 1)])) (some 32) (.agg #[.int .i64 xm,.int .i64 ym,.int .i64 dm])) (some 33) (.agg #[.int .i64 xt,.int .i64 yt,.int .i64 dt])) (some 34) (.pointer (some ⟨g,9,none⟩))) v:=by
    intro xm ym dm xt yt dt v aE aP aQ aS
    subst hF ha0 hL0
    simp only [PT] at  ⊢
    have hHeld:=aG.out _ aE.out
    refine ryy [13] ?_
    refine .cons rfl (fun K hK=>?_) .nil
    have aW:=hJ (new aF.out aE.out)
    have z3_0:=aW.out.at 9 rfl
    have y3_0:=OwnR.frz aW.out 9
    have z3_1:=aW.out.at 10 rfl
    have y3_1:=OwnR.frz aW.out 10
    have z3_2:=aW.out.at 11 rfl
    have y3_2:=OwnR.frz aW.out 11
    go_simp
    obtain ⟨v3,hV⟩:=nmz (World.setCell (World.setCell (World.setCell v ⟨g,9,none⟩ (.int .i64 xt)) ⟨g,10,none⟩ (.int .i64 yt)) ⟨g,11,none⟩ (.int .i64 dt))
    rw [hV]
    have bC:=hJ (show sto v g 9 [.int .i64 xt,.int .i64 yt,.int .i64 dt]=v3 from hV)
    clear hV z3_0 y3_0 z3_1 y3_1 z3_2 y3_2
    have eN:=hJ (show Below w.heap.size w v3 by rw [←bC.out]; exact below_sto (bt bB.out aE.out) bE.out _ _)
    clear hHeld
    refine hK.out _ _ (eN.out) (fun hHeld=>?_)
    clear hK K
    try simp only [PT]
    refine wpAnyH_done (by kernel_rfl) ?_ _
    clear hHeld
    have eO:=hJ (show OwnR noU v3 w.heap.size 32 3 (.slice (some ⟨g,0,none⟩) 4 cap) 4 [.int .i64 (xs 0),.int .i64 (ys 0),.int .i64 (ds 0),.int .i64 (xs 1),.int .i64 (ys 1),.int .i64 (ds 1),.int .i64 (xs 2),.int .i64 (ys 2),.int .i64 (ds 2),.int .i64 xt,.int .i64 yt,.int .i64 dt] by rw [←bC.out]; exact OwnR.sto aW.out 9 [.int .i64 xt,.int .i64 yt,.int .i64 dt] rfl)
    have bO:=eO
    obtain ⟨us,vs,ts,hrow,hnq,hqt⟩:∃ us vs ts:Nat→Int,[.int .i64 (xs 0),.int .i64 (ys 0),.int .i64 (ds 0),.int .i64 (xs 1),.int .i64 (ys 1),.int .i64 (ds 1),.int .i64 (xs 2),.int .i64 (ys 2),.int .i64 (ds 2),.int .i64 xt,.int .i64 yt,.int .i64 dt]=rowR us vs ts∧(∀ j,j < 4→Pq (us j) (vs j) (ts j))∧Qt (us 0) (vs 0) (ts 0) (us 1) (vs 1) (ts 1) (us 3) (vs 3) (ts 3):=by
      refine ⟨at4 (xs 0) (xs 1) (xs 2) xt,at4 (ys 0) (ys 1) (ys 2) yt,at4 (ds 0) (ds 1) (ds 2) dt,rfl,fun j hj=>?_,aS.out.1⟩
      have hcs:j=0∨j=1∨j=2∨j=3:=by omega
      rcases hcs with rfl | rfl | rfl | rfl
      · exact HN.out 0 (by decide)
      · exact HN.out 1 (by decide)
      · exact HN.out 2 (by decide)
      · exact aS.out.2
    rw [hrow] at bO
    clear hrow HN bM bN aS
    obtain ⟨xs,rfl⟩:∃ z,z=us:=⟨_,rfl⟩
    obtain ⟨ys,rfl⟩:∃ z,z=vs:=⟨_,rfl⟩
    obtain ⟨ds,rfl⟩:∃ z,z=ts:=⟨_,rfl⟩
    have HN:=hJ hnq
    have aS:=hJ hqt
    clear hnq hqt
    have eP:=hJ (OwnR.lt bO.out)
    go_wp2_with fail
    refine (four2_any xs ys ds g cap w.heap.size v3 bO.out eP.out HN.out).mono ?_
    rintro e w4 ⟨gq,cpq,U,rfl,ho,hl,hf,hb⟩
    have bF:=hJ hb
    have bG:=hJ ho
    have bH:=hJ hf
    clear hb ho hf
    clear hl
    go_wp2_with fail
    go_loopw [6] (fun tv wr=>∃ i:Nat,i≤64∧tv=.int .i64 (i:Int)∧Below w4.heap.size w4 wr) (fun tv _=>64 - (intOf tv).toNat)
    case atStart=>exact ⟨0,by omega,rfl,Below.refl _ _⟩
    case round =>
      obtain ⟨i5,hi,rfl,hbel⟩:=hrel
      obtain ⟨wl5,rfl⟩:∃ W:World,W=wr:=⟨_,rfl⟩
      have aL:=hJ hbel
      clear hbel
      rcases (show i5 < 64∨i5=64 by omega) with hlt | rfl
      · have h0i:(0:Int)≤(i5:Int):=by omega
        have hli:(i5:Int) < 64:=by omega
        obtain ⟨ja,hja⟩:∃ j:Nat,i5 % 4=j:=⟨_,rfl⟩
        obtain ⟨jb,hjb⟩:∃ j:Nat,i5 / 4 % 4=j:=⟨_,rfl⟩
        obtain ⟨jc,hjc⟩:∃ j:Nat,i5 / 16=j:=⟨_,rfl⟩
        have hjl:ja < 4∧jb < 4∧jc < 4:=by omega
        have HJ:=hJ (show ((i5:Int) % 4=(ja:Int)∧(IntKind.i64.wrap ((i5:Int) / 4)=(i5:Int) / 4∧(i5:Int) / 4 % 4=(jb:Int)))∧(IntKind.i64.wrap ((i5:Int) / 16)=(jc:Int)∧((i5:Int) / 16=(jc:Int))) from ⟨⟨by omega,IntWalk.i64_in _ (by omega),by omega⟩,by rw [show (i5:Int) / 16=(jc:Int) by omega]; exact IntWalk.i64_in _ (by omega),by omega⟩)
        have bP:=hJ (show (0:Int)≤(ja:Int)∧(ja:Int) < 4 by omega)
        have bQ:=hJ (show (0:Int)≤(jb:Int)∧(jb:Int) < 4 by omega)
        have bR:=hJ (show (0:Int)≤(jc:Int)∧(jc:Int) < 4 by omega)
        have bJ:=hJ hjl.1
        have bK:=hJ hjl.2.1
        have bL:=hJ hjl.2.2
        clear hja hjb hjc hjl
        obtain ⟨bb,hbb⟩:=nmz (btV (xs ja) (ys ja) (ds ja) (xs jb) (ys jb) (ds jb) (xs jc) (ys jc) (ds jc))
        have dH:=hJ hbb
        clear hbb
        have dB:=hJ (rowR_get xs ys ds bJ.out)
        have aT:=hJ (rowQ_get U bJ.out)
        have eQ:=hJ dB.out.1
        have eR:=hJ dB.out.2.1
        have eS:=hJ dB.out.2.2
        have eT:=hJ aT.out.1
        have eU:=hJ aT.out.2.1
        have eV:=hJ aT.out.2.2.1
        have eW:=hJ aT.out.2.2.2.1
        have eX:=hJ aT.out.2.2.2.2.1
        have eY:=hJ aT.out.2.2.2.2.2.1
        have eZ:=hJ aT.out.2.2.2.2.2.2.1
        have fA:=hJ aT.out.2.2.2.2.2.2.2
        have dD:=hJ (rowR_get xs ys ds bK.out)
        have aU:=hJ (rowQ_get U bK.out)
        have fB:=hJ dD.out.1
        have fC:=hJ dD.out.2.1
        have fD:=hJ dD.out.2.2
        have fE:=hJ aU.out.1
        have fF:=hJ aU.out.2.1
        have fG:=hJ aU.out.2.2.1
        have fH:=hJ aU.out.2.2.2.1
        have fI:=hJ aU.out.2.2.2.2.1
        have fJ:=hJ aU.out.2.2.2.2.2.1
        have fK:=hJ aU.out.2.2.2.2.2.2.1
        have fL:=hJ aU.out.2.2.2.2.2.2.2
        have dE:=hJ (rowR_get xs ys ds bL.out)
        have aV:=hJ (rowQ_get U bL.out)
        have fM:=hJ dE.out.1
        have fN:=hJ dE.out.2.1
        have fO:=hJ dE.out.2.2
        have fP:=hJ aV.out.1
        have fQ:=hJ aV.out.2.1
        have fR:=hJ aV.out.2.2.1
        have fS:=hJ aV.out.2.2.2.1
        have fT:=hJ aV.out.2.2.2.2.1
        have fU:=hJ aV.out.2.2.2.2.2.1
        have fV:=hJ aV.out.2.2.2.2.2.2.1
        have fW:=hJ aV.out.2.2.2.2.2.2.2
        have hma1:=HJ.out.1.1
        have hma2:=bP.out.1
        have hma3:=bP.out.2
        have hmb1:=HJ.out.1.2.1
        have hmb4:=HJ.out.1.2.2
        have hmb2:=bQ.out.1
        have hmb3:=bQ.out.2
        have hmb5:(0:Int)≤(i5:Int) / 4:=by omega
        have hmc1:=HJ.out.2.1
        have hmc4:=HJ.out.2.2
        have hmc2:=bR.out.1
        have hmc3:=bR.out.2
        have hjap:=bP.out.1
        have hjaq:=bP.out.2
        have hjbp:=bQ.out.1
        have hjbq:=bQ.out.2
        have hjcp:=bR.out.1
        have hjcq:=bR.out.2
        have aA:=hJ (new bG.out aL.out)
        have dI:Hid (∀ w',Below wl5.heap.size wl5 w'→(fun w':World=>w'.cell? ⟨gq,ja*8,none⟩=some ((U ja 0))∧w'.cell? ⟨gq,ja*8+1,none⟩=some ((U ja 1))∧w'.cell? ⟨gq,ja*8+2,none⟩=some ((U ja 2))∧w'.cell? ⟨gq,ja*8+3,none⟩=some ((U ja 3))∧w'.cell? ⟨gq,ja*8+4,none⟩=some ((U ja 4))∧w'.cell? ⟨gq,ja*8+5,none⟩=some ((U ja 5))∧w'.cell? ⟨gq,ja*8+6,none⟩=some ((U ja 6))∧w'.cell? ⟨gq,ja*8+7,none⟩=some ((U ja 7))∧w'.cell? ⟨gq,jb*8,none⟩=some ((U jb 0))∧w'.cell? ⟨gq,jb*8+1,none⟩=some ((U jb 1))∧w'.cell? ⟨gq,jb*8+2,none⟩=some ((U jb 2))∧w'.cell? ⟨gq,jb*8+3,none⟩=some ((U jb 3))∧w'.cell? ⟨gq,jb*8+4,none⟩=some ((U jb 4))∧w'.cell? ⟨gq,jb*8+5,none⟩=some ((U jb 5))∧w'.cell? ⟨gq,jb*8+6,none⟩=some ((U jb 6))∧w'.cell? ⟨gq,jb*8+7,none⟩=some ((U jb 7))∧w'.cell? ⟨gq,jc*8,none⟩=some ((U jc 0))∧w'.cell? ⟨gq,jc*8+1,none⟩=some ((U jc 1))∧w'.cell? ⟨gq,jc*8+2,none⟩=some ((U jc 2))∧w'.cell? ⟨gq,jc*8+3,none⟩=some ((U jc 3))∧w'.cell? ⟨gq,jc*8+4,none⟩=some ((U jc 4))∧w'.cell? ⟨gq,jc*8+5,none⟩=some ((U jc 5))∧w'.cell? ⟨gq,jc*8+6,none⟩=some ((U jc 6))∧w'.cell? ⟨gq,jc*8+7,none⟩=some ((U jc 7))∧Below wl5.heap.size wl5 w') w'):=hJ (fun w' hb=>⟨(new aA.out hb).at (ja*8) eT.out,(new aA.out hb).at (ja*8+1) eU.out,(new aA.out hb).at (ja*8+2) eV.out,(new aA.out hb).at (ja*8+3) eW.out,(new aA.out hb).at (ja*8+4) eX.out,(new aA.out hb).at (ja*8+5) eY.out,(new aA.out hb).at (ja*8+6) eZ.out,(new aA.out hb).at (ja*8+7) fA.out,(new aA.out hb).at (jb*8) fE.out,(new aA.out hb).at (jb*8+1) fF.out,(new aA.out hb).at (jb*8+2) fG.out,(new aA.out hb).at (jb*8+3) fH.out,(new aA.out hb).at (jb*8+4) fI.out,(new aA.out hb).at (jb*8+5) fJ.out,(new aA.out hb).at (jb*8+6) fK.out,(new aA.out hb).at (jb*8+7) fL.out,(new aA.out hb).at (jc*8) fP.out,(new aA.out hb).at (jc*8+1) fQ.out,(new aA.out hb).at (jc*8+2) fR.out,(new aA.out hb).at (jc*8+3) fS.out,(new aA.out hb).at (jc*8+4) fT.out,(new aA.out hb).at (jc*8+5) fU.out,(new aA.out hb).at (jc*8+6) fV.out,(new aA.out hb).at (jc*8+7) fW.out,hb⟩)
        have aI:=hJ (LF.new bH.out aL.out)
        go_wp2_with fail
        clear hma1 hma2 hma3 hmb1 hmb2 hmb3 hmb4 hmb5 hmc1 hmc2 hmc3 hmc4
        obtain ⟨v6,hv6⟩:=nmz (World.drew wl5)
        have bS:=hJ (show Below wl5.heap.size wl5 v6 by rw [←hv6]; exact (Below.refl _ _).drew)
        refine whd dI hv6 (fun hHeld=>?_)
        clear hv6
        refine tq 0 ?_
        refine tq 1 ?_
        refine tq 2 ?_
        refine tq 3 ?_
        refine tq 4 ?_
        refine tq 5 ?_
        refine tq 6 ?_
        refine tq 7 ?_
        refine tq 8 ?_
        refine tq 9 ?_
        refine tq 10 ?_
        refine tq 11 ?_
        try simp only [PT]
        refine ryy [12] ?_
        refine .cons rfl (fun K hK=>?_) .nil
        go_simp
        go_at_call 47
        refine (betweenv_any v6 ((LF.new aI.out bS.out) ja bJ.out) ((LF.new aI.out bS.out) jb bK.out) ((LF.new aI.out bS.out) jc bL.out) (pq_pz (HN.out ja bJ.out)) (pq_pz (HN.out jb bK.out)) (pq_pz (HN.out jc bL.out))).mono ?_
        rw [dH.out]
        rintro e v7 ⟨rfl,hb⟩
        have fX:=hJ hb
        clear hb
        go_wp2_with fail
        have dF:=hJ (bt bS.out fX.out)
        clear hHeld
        refine hK.out _ _ (dI.out _ dF.out) (fun hHeld=>?_)
        clear hK K
        refine tq 13 ?_
        refine tq 14 ?_
        refine tq 15 ?_
        refine tq 16 ?_
        refine tq 17 ?_
        try simp only [PT]
        refine wpAnyH_done (by kernel_rfl) ?_ _
        clear hHeld
        have fY:=hJ (bt (bt bF.out aL.out) dF.out)
        have aR:=hJ (new bO.out fY.out)
        have dJ:Hid (∀ w',Below v7.heap.size v7 w'→(fun w':World=>w'.cell? ⟨g,ja*3,none⟩=some (.int .i64 (xs ja))∧w'.cell? ⟨g,ja*3+1,none⟩=some (.int .i64 (ys ja))∧w'.cell? ⟨g,ja*3+2,none⟩=some (.int .i64 (ds ja))∧w'.cell? ⟨g,jb*3,none⟩=some (.int .i64 (xs jb))∧w'.cell? ⟨g,jb*3+1,none⟩=some (.int .i64 (ys jb))∧w'.cell? ⟨g,jb*3+2,none⟩=some (.int .i64 (ds jb))∧w'.cell? ⟨g,jc*3,none⟩=some (.int .i64 (xs jc))∧w'.cell? ⟨g,jc*3+1,none⟩=some (.int .i64 (ys jc))∧w'.cell? ⟨g,jc*3+2,none⟩=some (.int .i64 (ds jc))∧Below v7.heap.size v7 w') w'):=hJ (fun w' hb=>⟨(new aR.out hb).at (ja*3) eQ.out,(new aR.out hb).at (ja*3+1) eR.out,(new aR.out hb).at (ja*3+2) eS.out,(new aR.out hb).at (jb*3) fB.out,(new aR.out hb).at (jb*3+1) fC.out,(new aR.out hb).at (jb*3+2) fD.out,(new aR.out hb).at (jc*3) fM.out,(new aR.out hb).at (jc*3+1) fN.out,(new aR.out hb).at (jc*3+2) fO.out,hb⟩)
        go_wp2_with fail
        obtain ⟨v8,hv8⟩:=nmz (World.drew v7)
        have fZ:=hJ (show Below v7.heap.size v7 v8 by rw [←hv8]; exact (Below.refl _ _).drew)
        refine whd dJ hv8 (fun hHeld=>?_)
        clear hv8
        refine tq 0 ?_
        refine tq 1 ?_
        refine tq 2 ?_
        refine tq 3 ?_
        refine tq 4 ?_
        refine tq 5 ?_
        refine tq 6 ?_
        refine tq 7 ?_
        refine tq 8 ?_
        refine tq 9 ?_
        refine tq 10 ?_
        refine tq 11 ?_
        refine tq 12 ?_
        refine tq 13 ?_
        refine tq 14 ?_
        refine tq 15 ?_
        try simp only [PT]
        refine ryy [16] ?_
        refine .cons rfl (fun K hK=>?_) .nil
        go_simp
        go_at_call 48
        refine (rbetween_any (xs ja) (ys ja) (ds ja) (xs jb) (ys jb) (ds jb) (xs jc) (ys jc) (ds jc) v8 (HN.out ja bJ.out) (HN.out jb bK.out) (HN.out jc bL.out)).mono ?_
        rw [dH.out]
        rintro e v9 ⟨rfl,hb⟩
        have gA:=hJ hb
        clear hb
        go_wp2_with fail
        have dK:=hJ (bt fZ.out gA.out)
        clear hHeld
        refine hK.out _ _ (dJ.out _ dK.out) (fun hHeld=>?_)
        clear hK K
        try simp only [PT]
        refine tk 17 (.bool false) ?_ ?_
        · intro w hSw
          (try dsimp only at hSw)
          go_simp
          all_goals (first | rfl | simp | (cases bb <;> rfl))
        refine tq 18 ?_
        try simp only [PT]
        refine wpAnyH_done (by kernel_rfl) ?_ _
        clear hHeld
        have gB:=hJ (bt (bt aL.out dF.out) dK.out)
        go_wp2_with fail
        go_roundw
        case rel=>exact ⟨i5+1,by omega,by go_num,gB.out⟩
        case measure=>simp [intOf] <;> omega
      · (try rw [show ((64:Nat):Int)=64 from rfl])
        have bT:=hJ (qt_on (HN.out 0 (by decide)).1.1 (HN.out 1 (by decide)).1.1 (HN.out 3 (by decide)).1.1 aS.out)
        have bU:=hJ (qt_also (px:=xs 2) (py:=ys 2) (dp:=ds 2) (HN.out 0 (by decide)).1.1 (HN.out 1 (by decide)).1.1 (HN.out 3 (by decide)).1.1 aS.out)
        rcases (show (btV (xs 0) (ys 0) (ds 0) (xs 3) (ys 3) (ds 3) (xs 2) (ys 2) (ds 2)=true∧btV (xs 3) (ys 3) (ds 3) (xs 1) (ys 1) (ds 1) (xs 2) (ys 2) (ds 2)=true)∨(btV (xs 0) (ys 0) (ds 0) (xs 3) (ys 3) (ds 3) (xs 2) (ys 2) (ds 2)=true∧btV (xs 3) (ys 3) (ds 3) (xs 1) (ys 1) (ds 1) (xs 2) (ys 2) (ds 2)=false)∨(btV (xs 0) (ys 0) (ds 0) (xs 3) (ys 3) (ds 3) (xs 2) (ys 2) (ds 2)=false∧btV (xs 3) (ys 3) (ds 3) (xs 1) (ys 1) (ds 1) (xs 2) (ys 2) (ds 2)=true)∨(btV (xs 0) (ys 0) (ds 0) (xs 3) (ys 3) (ds 3) (xs 2) (ys 2) (ds 2)=false∧btV (xs 3) (ys 3) (ds 3) (xs 1) (ys 1) (ds 1) (xs 2) (ys 2) (ds 2)=false) by cases btV (xs 0) (ys 0) (ds 0) (xs 3) (ys 3) (ds 3) (xs 2) (ys 2) (ds 2) <;> cases btV (xs 3) (ys 3) (ds 3) (xs 1) (ys 1) (ds 1) (xs 2) (ys 2) (ds 2) <;> simp) with ⟨aM,aN⟩ | ⟨aM,aN⟩ | ⟨aM,aN⟩ | ⟨aM,aN⟩
        · have aX:=hJ aM
          have aH:=hJ aN
          have aY:=hJ (show btV (xs 0) (ys 0) (ds 0) (xs 1) (ys 1) (ds 1) (xs 2) (ys 2) (ds 2)=true by rw [bU.out,aM,aN]; rfl)
          clear aM aN
          have aA:=hJ (new bG.out aL.out)
          have dL:Hid (∀ w',Below wl5.heap.size wl5 w'→(fun w':World=>w'.cell? ⟨gq,0,none⟩=some ((U 0 0))∧w'.cell? ⟨gq,1,none⟩=some ((U 0 1))∧w'.cell? ⟨gq,2,none⟩=some ((U 0 2))∧w'.cell? ⟨gq,3,none⟩=some ((U 0 3))∧w'.cell? ⟨gq,4,none⟩=some ((U 0 4))∧w'.cell? ⟨gq,5,none⟩=some ((U 0 5))∧w'.cell? ⟨gq,6,none⟩=some ((U 0 6))∧w'.cell? ⟨gq,7,none⟩=some ((U 0 7))∧w'.cell? ⟨gq,8,none⟩=some ((U 1 0))∧w'.cell? ⟨gq,9,none⟩=some ((U 1 1))∧w'.cell? ⟨gq,10,none⟩=some ((U 1 2))∧w'.cell? ⟨gq,11,none⟩=some ((U 1 3))∧w'.cell? ⟨gq,12,none⟩=some ((U 1 4))∧w'.cell? ⟨gq,13,none⟩=some ((U 1 5))∧w'.cell? ⟨gq,14,none⟩=some ((U 1 6))∧w'.cell? ⟨gq,15,none⟩=some ((U 1 7))∧w'.cell? ⟨gq,24,none⟩=some ((U 3 0))∧w'.cell? ⟨gq,25,none⟩=some ((U 3 1))∧w'.cell? ⟨gq,26,none⟩=some ((U 3 2))∧w'.cell? ⟨gq,27,none⟩=some ((U 3 3))∧w'.cell? ⟨gq,28,none⟩=some ((U 3 4))∧w'.cell? ⟨gq,29,none⟩=some ((U 3 5))∧w'.cell? ⟨gq,30,none⟩=some ((U 3 6))∧w'.cell? ⟨gq,31,none⟩=some ((U 3 7))∧Below wl5.heap.size wl5 w') w'):=hJ (fun w' hb=>⟨(new aA.out hb).at 0 rfl,(new aA.out hb).at 1 rfl,(new aA.out hb).at 2 rfl,(new aA.out hb).at 3 rfl,(new aA.out hb).at 4 rfl,(new aA.out hb).at 5 rfl,(new aA.out hb).at 6 rfl,(new aA.out hb).at 7 rfl,(new aA.out hb).at 8 rfl,(new aA.out hb).at 9 rfl,(new aA.out hb).at 10 rfl,(new aA.out hb).at 11 rfl,(new aA.out hb).at 12 rfl,(new aA.out hb).at 13 rfl,(new aA.out hb).at 14 rfl,(new aA.out hb).at 15 rfl,(new aA.out hb).at 24 rfl,(new aA.out hb).at 25 rfl,(new aA.out hb).at 26 rfl,(new aA.out hb).at 27 rfl,(new aA.out hb).at 28 rfl,(new aA.out hb).at 29 rfl,(new aA.out hb).at 30 rfl,(new aA.out hb).at 31 rfl,hb⟩)
          have aI:=hJ (LF.new bH.out aL.out)
          go_wp2_with fail
          obtain ⟨v10,hv10⟩:=nmz (World.drew wl5)
          have bV:=hJ (show Below wl5.heap.size wl5 v10 by rw [←hv10]; exact (Below.refl _ _).drew)
          refine whd dL hv10 (fun hHeld=>?_)
          clear hv10
          refine tq 0 ?_
          refine tq 1 ?_
          refine tq 2 ?_
          refine tq 3 ?_
          refine tq 4 ?_
          refine tq 5 ?_
          refine tq 6 ?_
          refine tq 7 ?_
          refine tq 8 ?_
          try simp only [PT]
          refine ryy [9] ?_
          refine .cons rfl (fun K hK=>?_) .nil
          go_simp
          go_at_call 47
          refine (betweenv_any v10 ((LF.new aI.out bV.out) 0 (by decide)) ((LF.new aI.out bV.out) 1 (by decide)) ((LF.new aI.out bV.out) 3 (by decide)) (pq_pz (HN.out 0 (by decide))) (pq_pz (HN.out 1 (by decide))) (pq_pz (HN.out 3 (by decide)))).mono ?_
          rw [bT.out]
          rintro e v11 ⟨rfl,hb⟩
          have gC:=hJ hb
          clear hb
          go_wp2_with fail
          have bW:=hJ (bt bV.out gC.out)
          clear hHeld
          refine hK.out _ _ (dL.out _ bW.out) (fun hHeld=>?_)
          clear hK K
          refine tq 10 ?_
          refine tq 11 ?_
          refine tq 12 ?_
          refine tq 13 ?_
          refine tq 14 ?_
          try simp only [PT]
          refine wpAnyH_done (by kernel_rfl) ?_ _
          clear hHeld
          have aB:=hJ (new aA.out bW.out)
          have dM:Hid (∀ w',Below v11.heap.size v11 w'→(fun w':World=>w'.cell? ⟨gq,0,none⟩=some ((U 0 0))∧w'.cell? ⟨gq,1,none⟩=some ((U 0 1))∧w'.cell? ⟨gq,2,none⟩=some ((U 0 2))∧w'.cell? ⟨gq,3,none⟩=some ((U 0 3))∧w'.cell? ⟨gq,4,none⟩=some ((U 0 4))∧w'.cell? ⟨gq,5,none⟩=some ((U 0 5))∧w'.cell? ⟨gq,6,none⟩=some ((U 0 6))∧w'.cell? ⟨gq,7,none⟩=some ((U 0 7))∧w'.cell? ⟨gq,8,none⟩=some ((U 1 0))∧w'.cell? ⟨gq,9,none⟩=some ((U 1 1))∧w'.cell? ⟨gq,10,none⟩=some ((U 1 2))∧w'.cell? ⟨gq,11,none⟩=some ((U 1 3))∧w'.cell? ⟨gq,12,none⟩=some ((U 1 4))∧w'.cell? ⟨gq,13,none⟩=some ((U 1 5))∧w'.cell? ⟨gq,14,none⟩=some ((U 1 6))∧w'.cell? ⟨gq,15,none⟩=some ((U 1 7))∧w'.cell? ⟨gq,16,none⟩=some ((U 2 0))∧w'.cell? ⟨gq,17,none⟩=some ((U 2 1))∧w'.cell? ⟨gq,18,none⟩=some ((U 2 2))∧w'.cell? ⟨gq,19,none⟩=some ((U 2 3))∧w'.cell? ⟨gq,20,none⟩=some ((U 2 4))∧w'.cell? ⟨gq,21,none⟩=some ((U 2 5))∧w'.cell? ⟨gq,22,none⟩=some ((U 2 6))∧w'.cell? ⟨gq,23,none⟩=some ((U 2 7))∧Below v11.heap.size v11 w') w'):=hJ (fun w' hb=>⟨(new aB.out hb).at 0 rfl,(new aB.out hb).at 1 rfl,(new aB.out hb).at 2 rfl,(new aB.out hb).at 3 rfl,(new aB.out hb).at 4 rfl,(new aB.out hb).at 5 rfl,(new aB.out hb).at 6 rfl,(new aB.out hb).at 7 rfl,(new aB.out hb).at 8 rfl,(new aB.out hb).at 9 rfl,(new aB.out hb).at 10 rfl,(new aB.out hb).at 11 rfl,(new aB.out hb).at 12 rfl,(new aB.out hb).at 13 rfl,(new aB.out hb).at 14 rfl,(new aB.out hb).at 15 rfl,(new aB.out hb).at 16 rfl,(new aB.out hb).at 17 rfl,(new aB.out hb).at 18 rfl,(new aB.out hb).at 19 rfl,(new aB.out hb).at 20 rfl,(new aB.out hb).at 21 rfl,(new aB.out hb).at 22 rfl,(new aB.out hb).at 23 rfl,hb⟩)
          have aJ:=hJ (LF.new aI.out bW.out)
          go_wp2_with fail
          obtain ⟨v12,hv12⟩:=nmz (World.drew v11)
          have bX:=hJ (show Below v11.heap.size v11 v12 by rw [←hv12]; exact (Below.refl _ _).drew)
          refine whd dM hv12 (fun hHeld=>?_)
          clear hv12
          refine tq 0 ?_
          refine tq 1 ?_
          refine tq 2 ?_
          refine tq 3 ?_
          refine tq 4 ?_
          refine tq 5 ?_
          refine tq 6 ?_
          refine tq 7 ?_
          refine tq 8 ?_
          try simp only [PT]
          refine ryy [9] ?_
          refine .cons rfl (fun K hK=>?_) .nil
          go_simp
          go_at_call 47
          refine (betweenv_any v12 ((LF.new aJ.out bX.out) 0 (by decide)) ((LF.new aJ.out bX.out) 1 (by decide)) ((LF.new aJ.out bX.out) 2 (by decide)) (pq_pz (HN.out 0 (by decide))) (pq_pz (HN.out 1 (by decide))) (pq_pz (HN.out 2 (by decide)))).mono ?_
          rw [aY.out]
          rintro e v13 ⟨rfl,hb⟩
          have gD:=hJ hb
          clear hb
          go_wp2_with fail
          have bY:=hJ (bt bX.out gD.out)
          clear hHeld
          refine hK.out _ _ (dM.out _ bY.out) (fun hHeld=>?_)
          clear hK K
          refine tq 10 ?_
          refine tq 11 ?_
          refine tq 12 ?_
          refine tq 13 ?_
          refine tq 14 ?_
          try simp only [PT]
          refine wpAnyH_done (by kernel_rfl) ?_ _
          clear hHeld
          have aC:=hJ (new aB.out bY.out)
          have dN:Hid (∀ w',Below v13.heap.size v13 w'→(fun w':World=>w'.cell? ⟨gq,0,none⟩=some ((U 0 0))∧w'.cell? ⟨gq,1,none⟩=some ((U 0 1))∧w'.cell? ⟨gq,2,none⟩=some ((U 0 2))∧w'.cell? ⟨gq,3,none⟩=some ((U 0 3))∧w'.cell? ⟨gq,4,none⟩=some ((U 0 4))∧w'.cell? ⟨gq,5,none⟩=some ((U 0 5))∧w'.cell? ⟨gq,6,none⟩=some ((U 0 6))∧w'.cell? ⟨gq,7,none⟩=some ((U 0 7))∧w'.cell? ⟨gq,24,none⟩=some ((U 3 0))∧w'.cell? ⟨gq,25,none⟩=some ((U 3 1))∧w'.cell? ⟨gq,26,none⟩=some ((U 3 2))∧w'.cell? ⟨gq,27,none⟩=some ((U 3 3))∧w'.cell? ⟨gq,28,none⟩=some ((U 3 4))∧w'.cell? ⟨gq,29,none⟩=some ((U 3 5))∧w'.cell? ⟨gq,30,none⟩=some ((U 3 6))∧w'.cell? ⟨gq,31,none⟩=some ((U 3 7))∧w'.cell? ⟨gq,16,none⟩=some ((U 2 0))∧w'.cell? ⟨gq,17,none⟩=some ((U 2 1))∧w'.cell? ⟨gq,18,none⟩=some ((U 2 2))∧w'.cell? ⟨gq,19,none⟩=some ((U 2 3))∧w'.cell? ⟨gq,20,none⟩=some ((U 2 4))∧w'.cell? ⟨gq,21,none⟩=some ((U 2 5))∧w'.cell? ⟨gq,22,none⟩=some ((U 2 6))∧w'.cell? ⟨gq,23,none⟩=some ((U 2 7))∧Below v13.heap.size v13 w') w'):=hJ (fun w' hb=>⟨(new aC.out hb).at 0 rfl,(new aC.out hb).at 1 rfl,(new aC.out hb).at 2 rfl,(new aC.out hb).at 3 rfl,(new aC.out hb).at 4 rfl,(new aC.out hb).at 5 rfl,(new aC.out hb).at 6 rfl,(new aC.out hb).at 7 rfl,(new aC.out hb).at 24 rfl,(new aC.out hb).at 25 rfl,(new aC.out hb).at 26 rfl,(new aC.out hb).at 27 rfl,(new aC.out hb).at 28 rfl,(new aC.out hb).at 29 rfl,(new aC.out hb).at 30 rfl,(new aC.out hb).at 31 rfl,(new aC.out hb).at 16 rfl,(new aC.out hb).at 17 rfl,(new aC.out hb).at 18 rfl,(new aC.out hb).at 19 rfl,(new aC.out hb).at 20 rfl,(new aC.out hb).at 21 rfl,(new aC.out hb).at 22 rfl,(new aC.out hb).at 23 rfl,hb⟩)
          have aK:=hJ (LF.new aJ.out bY.out)
          go_wp2_with fail
          obtain ⟨v14,hv14⟩:=nmz (World.drew v13)
          have bZ:=hJ (show Below v13.heap.size v13 v14 by rw [←hv14]; exact (Below.refl _ _).drew)
          refine whd dN hv14 (fun hHeld=>?_)
          clear hv14
          refine tq 0 ?_
          refine tq 1 ?_
          refine tq 2 ?_
          refine tq 3 ?_
          refine tq 4 ?_
          refine tq 5 ?_
          refine tq 6 ?_
          refine tq 7 ?_
          refine tq 8 ?_
          try simp only [PT]
          refine ryy [9] ?_
          refine .cons rfl (fun K hK=>?_) .nil
          go_simp
          go_at_call 47
          refine (betweenv_any v14 ((LF.new aK.out bZ.out) 0 (by decide)) ((LF.new aK.out bZ.out) 3 (by decide)) ((LF.new aK.out bZ.out) 2 (by decide)) (pq_pz (HN.out 0 (by decide))) (pq_pz (HN.out 3 (by decide))) (pq_pz (HN.out 2 (by decide)))).mono ?_
          rw [aX.out]
          rintro e v15 ⟨rfl,hb⟩
          have gE:=hJ hb
          clear hb
          go_wp2_with fail
          have cA:=hJ (bt bZ.out gE.out)
          clear hHeld
          refine hK.out _ _ (dN.out _ cA.out) (fun hHeld=>?_)
          clear hK K
          refine tq 10 ?_
          refine tq 11 ?_
          refine tq 12 ?_
          refine tq 13 ?_
          refine tq 14 ?_
          try simp only [PT]
          refine wpAnyH_done (by kernel_rfl) ?_ _
          clear hHeld
          have aD:=hJ (new aC.out cA.out)
          have dO:Hid (∀ w',Below v15.heap.size v15 w'→(fun w':World=>w'.cell? ⟨gq,24,none⟩=some ((U 3 0))∧w'.cell? ⟨gq,25,none⟩=some ((U 3 1))∧w'.cell? ⟨gq,26,none⟩=some ((U 3 2))∧w'.cell? ⟨gq,27,none⟩=some ((U 3 3))∧w'.cell? ⟨gq,28,none⟩=some ((U 3 4))∧w'.cell? ⟨gq,29,none⟩=some ((U 3 5))∧w'.cell? ⟨gq,30,none⟩=some ((U 3 6))∧w'.cell? ⟨gq,31,none⟩=some ((U 3 7))∧w'.cell? ⟨gq,8,none⟩=some ((U 1 0))∧w'.cell? ⟨gq,9,none⟩=some ((U 1 1))∧w'.cell? ⟨gq,10,none⟩=some ((U 1 2))∧w'.cell? ⟨gq,11,none⟩=some ((U 1 3))∧w'.cell? ⟨gq,12,none⟩=some ((U 1 4))∧w'.cell? ⟨gq,13,none⟩=some ((U 1 5))∧w'.cell? ⟨gq,14,none⟩=some ((U 1 6))∧w'.cell? ⟨gq,15,none⟩=some ((U 1 7))∧w'.cell? ⟨gq,16,none⟩=some ((U 2 0))∧w'.cell? ⟨gq,17,none⟩=some ((U 2 1))∧w'.cell? ⟨gq,18,none⟩=some ((U 2 2))∧w'.cell? ⟨gq,19,none⟩=some ((U 2 3))∧w'.cell? ⟨gq,20,none⟩=some ((U 2 4))∧w'.cell? ⟨gq,21,none⟩=some ((U 2 5))∧w'.cell? ⟨gq,22,none⟩=some ((U 2 6))∧w'.cell? ⟨gq,23,none⟩=some ((U 2 7))∧Below v15.heap.size v15 w') w'):=hJ (fun w' hb=>⟨(new aD.out hb).at 24 rfl,(new aD.out hb).at 25 rfl,(new aD.out hb).at 26 rfl,(new aD.out hb).at 27 rfl,(new aD.out hb).at 28 rfl,(new aD.out hb).at 29 rfl,(new aD.out hb).at 30 rfl,(new aD.out hb).at 31 rfl,(new aD.out hb).at 8 rfl,(new aD.out hb).at 9 rfl,(new aD.out hb).at 10 rfl,(new aD.out hb).at 11 rfl,(new aD.out hb).at 12 rfl,(new aD.out hb).at 13 rfl,(new aD.out hb).at 14 rfl,(new aD.out hb).at 15 rfl,(new aD.out hb).at 16 rfl,(new aD.out hb).at 17 rfl,(new aD.out hb).at 18 rfl,(new aD.out hb).at 19 rfl,(new aD.out hb).at 20 rfl,(new aD.out hb).at 21 rfl,(new aD.out hb).at 22 rfl,(new aD.out hb).at 23 rfl,hb⟩)
          have aO:=hJ (LF.new aK.out cA.out)
          go_wp2_with fail
          obtain ⟨v16,hv16⟩:=nmz (World.drew v15)
          have cB:=hJ (show Below v15.heap.size v15 v16 by rw [←hv16]; exact (Below.refl _ _).drew)
          refine whd dO hv16 (fun hHeld=>?_)
          clear hv16
          refine tq 0 ?_
          refine tq 1 ?_
          refine tq 2 ?_
          refine tq 3 ?_
          refine tq 4 ?_
          refine tq 5 ?_
          refine tq 6 ?_
          refine tq 7 ?_
          refine tq 8 ?_
          try simp only [PT]
          refine ryy [9] ?_
          refine .cons rfl (fun K hK=>?_) .nil
          go_simp
          go_at_call 47
          refine (betweenv_any v16 ((LF.new aO.out cB.out) 3 (by decide)) ((LF.new aO.out cB.out) 1 (by decide)) ((LF.new aO.out cB.out) 2 (by decide)) (pq_pz (HN.out 3 (by decide))) (pq_pz (HN.out 1 (by decide))) (pq_pz (HN.out 2 (by decide)))).mono ?_
          rw [aH.out]
          rintro e v17 ⟨rfl,hb⟩
          have gF:=hJ hb
          clear hb
          go_wp2_with fail
          have dP:=hJ (bt cB.out gF.out)
          clear hHeld
          refine hK.out _ _ (dO.out _ dP.out) (fun hHeld=>?_)
          clear hK K
          refine tq 10 ?_
          refine tq 11 ?_
          refine tq 12 ?_
          refine tq 13 ?_
          refine tq 14 ?_
          try simp only [PT]
          refine wpAnyH_done (by kernel_rfl) ?_ _
          clear hHeld
          go_wp2_with fail
          refine (lives6_any v17).mono ?_
          rintro e w18 ⟨rfl,hb⟩
          have gG:=hJ hb
          clear hb
          have aZ:=hJ (show Below w.heap.size w v3 by rw [←bC.out]; exact below_sto (bt bB.out aE.out) bE.out _ _)
          have bA:=hJ (bt (bt (bt (bt (bt (bt (bt aZ.out bF.out) aL.out) bW.out) bY.out) cA.out) dP.out) gG.out)
          go_wp2
          go_ret
          exact ⟨rfl,bA.out⟩
        · have aX:=hJ aM
          have aH:=hJ aN
          have aY:=hJ (show btV (xs 0) (ys 0) (ds 0) (xs 1) (ys 1) (ds 1) (xs 2) (ys 2) (ds 2)=true by rw [bU.out,aM,aN]; rfl)
          clear aM aN
          have aA:=hJ (new bG.out aL.out)
          have dQ:Hid (∀ w',Below wl5.heap.size wl5 w'→(fun w':World=>w'.cell? ⟨gq,0,none⟩=some ((U 0 0))∧w'.cell? ⟨gq,1,none⟩=some ((U 0 1))∧w'.cell? ⟨gq,2,none⟩=some ((U 0 2))∧w'.cell? ⟨gq,3,none⟩=some ((U 0 3))∧w'.cell? ⟨gq,4,none⟩=some ((U 0 4))∧w'.cell? ⟨gq,5,none⟩=some ((U 0 5))∧w'.cell? ⟨gq,6,none⟩=some ((U 0 6))∧w'.cell? ⟨gq,7,none⟩=some ((U 0 7))∧w'.cell? ⟨gq,8,none⟩=some ((U 1 0))∧w'.cell? ⟨gq,9,none⟩=some ((U 1 1))∧w'.cell? ⟨gq,10,none⟩=some ((U 1 2))∧w'.cell? ⟨gq,11,none⟩=some ((U 1 3))∧w'.cell? ⟨gq,12,none⟩=some ((U 1 4))∧w'.cell? ⟨gq,13,none⟩=some ((U 1 5))∧w'.cell? ⟨gq,14,none⟩=some ((U 1 6))∧w'.cell? ⟨gq,15,none⟩=some ((U 1 7))∧w'.cell? ⟨gq,24,none⟩=some ((U 3 0))∧w'.cell? ⟨gq,25,none⟩=some ((U 3 1))∧w'.cell? ⟨gq,26,none⟩=some ((U 3 2))∧w'.cell? ⟨gq,27,none⟩=some ((U 3 3))∧w'.cell? ⟨gq,28,none⟩=some ((U 3 4))∧w'.cell? ⟨gq,29,none⟩=some ((U 3 5))∧w'.cell? ⟨gq,30,none⟩=some ((U 3 6))∧w'.cell? ⟨gq,31,none⟩=some ((U 3 7))∧Below wl5.heap.size wl5 w') w'):=hJ (fun w' hb=>⟨(new aA.out hb).at 0 rfl,(new aA.out hb).at 1 rfl,(new aA.out hb).at 2 rfl,(new aA.out hb).at 3 rfl,(new aA.out hb).at 4 rfl,(new aA.out hb).at 5 rfl,(new aA.out hb).at 6 rfl,(new aA.out hb).at 7 rfl,(new aA.out hb).at 8 rfl,(new aA.out hb).at 9 rfl,(new aA.out hb).at 10 rfl,(new aA.out hb).at 11 rfl,(new aA.out hb).at 12 rfl,(new aA.out hb).at 13 rfl,(new aA.out hb).at 14 rfl,(new aA.out hb).at 15 rfl,(new aA.out hb).at 24 rfl,(new aA.out hb).at 25 rfl,(new aA.out hb).at 26 rfl,(new aA.out hb).at 27 rfl,(new aA.out hb).at 28 rfl,(new aA.out hb).at 29 rfl,(new aA.out hb).at 30 rfl,(new aA.out hb).at 31 rfl,hb⟩)
          have aI:=hJ (LF.new bH.out aL.out)
          go_wp2_with fail
          obtain ⟨v19,hv19⟩:=nmz (World.drew wl5)
          have cC:=hJ (show Below wl5.heap.size wl5 v19 by rw [←hv19]; exact (Below.refl _ _).drew)
          refine whd dQ hv19 (fun hHeld=>?_)
          clear hv19
          refine tq 0 ?_
          refine tq 1 ?_
          refine tq 2 ?_
          refine tq 3 ?_
          refine tq 4 ?_
          refine tq 5 ?_
          refine tq 6 ?_
          refine tq 7 ?_
          refine tq 8 ?_
          try simp only [PT]
          refine ryy [9] ?_
          refine .cons rfl (fun K hK=>?_) .nil
          go_simp
          go_at_call 47
          refine (betweenv_any v19 ((LF.new aI.out cC.out) 0 (by decide)) ((LF.new aI.out cC.out) 1 (by decide)) ((LF.new aI.out cC.out) 3 (by decide)) (pq_pz (HN.out 0 (by decide))) (pq_pz (HN.out 1 (by decide))) (pq_pz (HN.out 3 (by decide)))).mono ?_
          rw [bT.out]
          rintro e v20 ⟨rfl,hb⟩
          have gH:=hJ hb
          clear hb
          go_wp2_with fail
          have cD:=hJ (bt cC.out gH.out)
          clear hHeld
          refine hK.out _ _ (dQ.out _ cD.out) (fun hHeld=>?_)
          clear hK K
          refine tq 10 ?_
          refine tq 11 ?_
          refine tq 12 ?_
          refine tq 13 ?_
          refine tq 14 ?_
          try simp only [PT]
          refine wpAnyH_done (by kernel_rfl) ?_ _
          clear hHeld
          have aB:=hJ (new aA.out cD.out)
          have dR:Hid (∀ w',Below v20.heap.size v20 w'→(fun w':World=>w'.cell? ⟨gq,0,none⟩=some ((U 0 0))∧w'.cell? ⟨gq,1,none⟩=some ((U 0 1))∧w'.cell? ⟨gq,2,none⟩=some ((U 0 2))∧w'.cell? ⟨gq,3,none⟩=some ((U 0 3))∧w'.cell? ⟨gq,4,none⟩=some ((U 0 4))∧w'.cell? ⟨gq,5,none⟩=some ((U 0 5))∧w'.cell? ⟨gq,6,none⟩=some ((U 0 6))∧w'.cell? ⟨gq,7,none⟩=some ((U 0 7))∧w'.cell? ⟨gq,8,none⟩=some ((U 1 0))∧w'.cell? ⟨gq,9,none⟩=some ((U 1 1))∧w'.cell? ⟨gq,10,none⟩=some ((U 1 2))∧w'.cell? ⟨gq,11,none⟩=some ((U 1 3))∧w'.cell? ⟨gq,12,none⟩=some ((U 1 4))∧w'.cell? ⟨gq,13,none⟩=some ((U 1 5))∧w'.cell? ⟨gq,14,none⟩=some ((U 1 6))∧w'.cell? ⟨gq,15,none⟩=some ((U 1 7))∧w'.cell? ⟨gq,16,none⟩=some ((U 2 0))∧w'.cell? ⟨gq,17,none⟩=some ((U 2 1))∧w'.cell? ⟨gq,18,none⟩=some ((U 2 2))∧w'.cell? ⟨gq,19,none⟩=some ((U 2 3))∧w'.cell? ⟨gq,20,none⟩=some ((U 2 4))∧w'.cell? ⟨gq,21,none⟩=some ((U 2 5))∧w'.cell? ⟨gq,22,none⟩=some ((U 2 6))∧w'.cell? ⟨gq,23,none⟩=some ((U 2 7))∧Below v20.heap.size v20 w') w'):=hJ (fun w' hb=>⟨(new aB.out hb).at 0 rfl,(new aB.out hb).at 1 rfl,(new aB.out hb).at 2 rfl,(new aB.out hb).at 3 rfl,(new aB.out hb).at 4 rfl,(new aB.out hb).at 5 rfl,(new aB.out hb).at 6 rfl,(new aB.out hb).at 7 rfl,(new aB.out hb).at 8 rfl,(new aB.out hb).at 9 rfl,(new aB.out hb).at 10 rfl,(new aB.out hb).at 11 rfl,(new aB.out hb).at 12 rfl,(new aB.out hb).at 13 rfl,(new aB.out hb).at 14 rfl,(new aB.out hb).at 15 rfl,(new aB.out hb).at 16 rfl,(new aB.out hb).at 17 rfl,(new aB.out hb).at 18 rfl,(new aB.out hb).at 19 rfl,(new aB.out hb).at 20 rfl,(new aB.out hb).at 21 rfl,(new aB.out hb).at 22 rfl,(new aB.out hb).at 23 rfl,hb⟩)
          have aJ:=hJ (LF.new aI.out cD.out)
          go_wp2_with fail
          obtain ⟨v21,hv21⟩:=nmz (World.drew v20)
          have cE:=hJ (show Below v20.heap.size v20 v21 by rw [←hv21]; exact (Below.refl _ _).drew)
          refine whd dR hv21 (fun hHeld=>?_)
          clear hv21
          refine tq 0 ?_
          refine tq 1 ?_
          refine tq 2 ?_
          refine tq 3 ?_
          refine tq 4 ?_
          refine tq 5 ?_
          refine tq 6 ?_
          refine tq 7 ?_
          refine tq 8 ?_
          try simp only [PT]
          refine ryy [9] ?_
          refine .cons rfl (fun K hK=>?_) .nil
          go_simp
          go_at_call 47
          refine (betweenv_any v21 ((LF.new aJ.out cE.out) 0 (by decide)) ((LF.new aJ.out cE.out) 1 (by decide)) ((LF.new aJ.out cE.out) 2 (by decide)) (pq_pz (HN.out 0 (by decide))) (pq_pz (HN.out 1 (by decide))) (pq_pz (HN.out 2 (by decide)))).mono ?_
          rw [aY.out]
          rintro e v22 ⟨rfl,hb⟩
          have gI:=hJ hb
          clear hb
          go_wp2_with fail
          have cF:=hJ (bt cE.out gI.out)
          clear hHeld
          refine hK.out _ _ (dR.out _ cF.out) (fun hHeld=>?_)
          clear hK K
          refine tq 10 ?_
          refine tq 11 ?_
          refine tq 12 ?_
          refine tq 13 ?_
          refine tq 14 ?_
          try simp only [PT]
          refine wpAnyH_done (by kernel_rfl) ?_ _
          clear hHeld
          have aC:=hJ (new aB.out cF.out)
          have dS:Hid (∀ w',Below v22.heap.size v22 w'→(fun w':World=>w'.cell? ⟨gq,0,none⟩=some ((U 0 0))∧w'.cell? ⟨gq,1,none⟩=some ((U 0 1))∧w'.cell? ⟨gq,2,none⟩=some ((U 0 2))∧w'.cell? ⟨gq,3,none⟩=some ((U 0 3))∧w'.cell? ⟨gq,4,none⟩=some ((U 0 4))∧w'.cell? ⟨gq,5,none⟩=some ((U 0 5))∧w'.cell? ⟨gq,6,none⟩=some ((U 0 6))∧w'.cell? ⟨gq,7,none⟩=some ((U 0 7))∧w'.cell? ⟨gq,24,none⟩=some ((U 3 0))∧w'.cell? ⟨gq,25,none⟩=some ((U 3 1))∧w'.cell? ⟨gq,26,none⟩=some ((U 3 2))∧w'.cell? ⟨gq,27,none⟩=some ((U 3 3))∧w'.cell? ⟨gq,28,none⟩=some ((U 3 4))∧w'.cell? ⟨gq,29,none⟩=some ((U 3 5))∧w'.cell? ⟨gq,30,none⟩=some ((U 3 6))∧w'.cell? ⟨gq,31,none⟩=some ((U 3 7))∧w'.cell? ⟨gq,16,none⟩=some ((U 2 0))∧w'.cell? ⟨gq,17,none⟩=some ((U 2 1))∧w'.cell? ⟨gq,18,none⟩=some ((U 2 2))∧w'.cell? ⟨gq,19,none⟩=some ((U 2 3))∧w'.cell? ⟨gq,20,none⟩=some ((U 2 4))∧w'.cell? ⟨gq,21,none⟩=some ((U 2 5))∧w'.cell? ⟨gq,22,none⟩=some ((U 2 6))∧w'.cell? ⟨gq,23,none⟩=some ((U 2 7))∧Below v22.heap.size v22 w') w'):=hJ (fun w' hb=>⟨(new aC.out hb).at 0 rfl,(new aC.out hb).at 1 rfl,(new aC.out hb).at 2 rfl,(new aC.out hb).at 3 rfl,(new aC.out hb).at 4 rfl,(new aC.out hb).at 5 rfl,(new aC.out hb).at 6 rfl,(new aC.out hb).at 7 rfl,(new aC.out hb).at 24 rfl,(new aC.out hb).at 25 rfl,(new aC.out hb).at 26 rfl,(new aC.out hb).at 27 rfl,(new aC.out hb).at 28 rfl,(new aC.out hb).at 29 rfl,(new aC.out hb).at 30 rfl,(new aC.out hb).at 31 rfl,(new aC.out hb).at 16 rfl,(new aC.out hb).at 17 rfl,(new aC.out hb).at 18 rfl,(new aC.out hb).at 19 rfl,(new aC.out hb).at 20 rfl,(new aC.out hb).at 21 rfl,(new aC.out hb).at 22 rfl,(new aC.out hb).at 23 rfl,hb⟩)
          have aK:=hJ (LF.new aJ.out cF.out)
          go_wp2_with fail
          obtain ⟨v23,hv23⟩:=nmz (World.drew v22)
          have cG:=hJ (show Below v22.heap.size v22 v23 by rw [←hv23]; exact (Below.refl _ _).drew)
          refine whd dS hv23 (fun hHeld=>?_)
          clear hv23
          refine tq 0 ?_
          refine tq 1 ?_
          refine tq 2 ?_
          refine tq 3 ?_
          refine tq 4 ?_
          refine tq 5 ?_
          refine tq 6 ?_
          refine tq 7 ?_
          refine tq 8 ?_
          try simp only [PT]
          refine ryy [9] ?_
          refine .cons rfl (fun K hK=>?_) .nil
          go_simp
          go_at_call 47
          refine (betweenv_any v23 ((LF.new aK.out cG.out) 0 (by decide)) ((LF.new aK.out cG.out) 3 (by decide)) ((LF.new aK.out cG.out) 2 (by decide)) (pq_pz (HN.out 0 (by decide))) (pq_pz (HN.out 3 (by decide))) (pq_pz (HN.out 2 (by decide)))).mono ?_
          rw [aX.out]
          rintro e v24 ⟨rfl,hb⟩
          have gJ:=hJ hb
          clear hb
          go_wp2_with fail
          have cH:=hJ (bt cG.out gJ.out)
          clear hHeld
          refine hK.out _ _ (dS.out _ cH.out) (fun hHeld=>?_)
          clear hK K
          refine tq 10 ?_
          refine tq 11 ?_
          refine tq 12 ?_
          refine tq 13 ?_
          refine tq 14 ?_
          try simp only [PT]
          refine wpAnyH_done (by kernel_rfl) ?_ _
          clear hHeld
          have aD:=hJ (new aC.out cH.out)
          have dT:Hid (∀ w',Below v24.heap.size v24 w'→(fun w':World=>w'.cell? ⟨gq,24,none⟩=some ((U 3 0))∧w'.cell? ⟨gq,25,none⟩=some ((U 3 1))∧w'.cell? ⟨gq,26,none⟩=some ((U 3 2))∧w'.cell? ⟨gq,27,none⟩=some ((U 3 3))∧w'.cell? ⟨gq,28,none⟩=some ((U 3 4))∧w'.cell? ⟨gq,29,none⟩=some ((U 3 5))∧w'.cell? ⟨gq,30,none⟩=some ((U 3 6))∧w'.cell? ⟨gq,31,none⟩=some ((U 3 7))∧w'.cell? ⟨gq,8,none⟩=some ((U 1 0))∧w'.cell? ⟨gq,9,none⟩=some ((U 1 1))∧w'.cell? ⟨gq,10,none⟩=some ((U 1 2))∧w'.cell? ⟨gq,11,none⟩=some ((U 1 3))∧w'.cell? ⟨gq,12,none⟩=some ((U 1 4))∧w'.cell? ⟨gq,13,none⟩=some ((U 1 5))∧w'.cell? ⟨gq,14,none⟩=some ((U 1 6))∧w'.cell? ⟨gq,15,none⟩=some ((U 1 7))∧w'.cell? ⟨gq,16,none⟩=some ((U 2 0))∧w'.cell? ⟨gq,17,none⟩=some ((U 2 1))∧w'.cell? ⟨gq,18,none⟩=some ((U 2 2))∧w'.cell? ⟨gq,19,none⟩=some ((U 2 3))∧w'.cell? ⟨gq,20,none⟩=some ((U 2 4))∧w'.cell? ⟨gq,21,none⟩=some ((U 2 5))∧w'.cell? ⟨gq,22,none⟩=some ((U 2 6))∧w'.cell? ⟨gq,23,none⟩=some ((U 2 7))∧Below v24.heap.size v24 w') w'):=hJ (fun w' hb=>⟨(new aD.out hb).at 24 rfl,(new aD.out hb).at 25 rfl,(new aD.out hb).at 26 rfl,(new aD.out hb).at 27 rfl,(new aD.out hb).at 28 rfl,(new aD.out hb).at 29 rfl,(new aD.out hb).at 30 rfl,(new aD.out hb).at 31 rfl,(new aD.out hb).at 8 rfl,(new aD.out hb).at 9 rfl,(new aD.out hb).at 10 rfl,(new aD.out hb).at 11 rfl,(new aD.out hb).at 12 rfl,(new aD.out hb).at 13 rfl,(new aD.out hb).at 14 rfl,(new aD.out hb).at 15 rfl,(new aD.out hb).at 16 rfl,(new aD.out hb).at 17 rfl,(new aD.out hb).at 18 rfl,(new aD.out hb).at 19 rfl,(new aD.out hb).at 20 rfl,(new aD.out hb).at 21 rfl,(new aD.out hb).at 22 rfl,(new aD.out hb).at 23 rfl,hb⟩)
          have aO:=hJ (LF.new aK.out cH.out)
          go_wp2_with fail
          obtain ⟨v25,hv25⟩:=nmz (World.drew v24)
          have cI:=hJ (show Below v24.heap.size v24 v25 by rw [←hv25]; exact (Below.refl _ _).drew)
          refine whd dT hv25 (fun hHeld=>?_)
          clear hv25
          refine tq 0 ?_
          refine tq 1 ?_
          refine tq 2 ?_
          refine tq 3 ?_
          refine tq 4 ?_
          refine tq 5 ?_
          refine tq 6 ?_
          refine tq 7 ?_
          refine tq 8 ?_
          try simp only [PT]
          refine ryy [9] ?_
          refine .cons rfl (fun K hK=>?_) .nil
          go_simp
          go_at_call 47
          refine (betweenv_any v25 ((LF.new aO.out cI.out) 3 (by decide)) ((LF.new aO.out cI.out) 1 (by decide)) ((LF.new aO.out cI.out) 2 (by decide)) (pq_pz (HN.out 3 (by decide))) (pq_pz (HN.out 1 (by decide))) (pq_pz (HN.out 2 (by decide)))).mono ?_
          rw [aH.out]
          rintro e v26 ⟨rfl,hb⟩
          have gK:=hJ hb
          clear hb
          go_wp2_with fail
          have dU:=hJ (bt cI.out gK.out)
          clear hHeld
          refine hK.out _ _ (dT.out _ dU.out) (fun hHeld=>?_)
          clear hK K
          refine tq 10 ?_
          refine tq 11 ?_
          refine tq 12 ?_
          refine tq 13 ?_
          refine tq 14 ?_
          try simp only [PT]
          refine wpAnyH_done (by kernel_rfl) ?_ _
          clear hHeld
          go_wp2_with fail
          refine (lives6_any v26).mono ?_
          rintro e w27 ⟨rfl,hb⟩
          have gL:=hJ hb
          clear hb
          have aZ:=hJ (show Below w.heap.size w v3 by rw [←bC.out]; exact below_sto (bt bB.out aE.out) bE.out _ _)
          have bA:=hJ (bt (bt (bt (bt (bt (bt (bt aZ.out bF.out) aL.out) cD.out) cF.out) cH.out) dU.out) gL.out)
          go_wp2
          go_ret
          exact ⟨rfl,bA.out⟩
        · have aX:=hJ aM
          have aH:=hJ aN
          have aY:=hJ (show btV (xs 0) (ys 0) (ds 0) (xs 1) (ys 1) (ds 1) (xs 2) (ys 2) (ds 2)=true by rw [bU.out,aM,aN]; rfl)
          clear aM aN
          have aA:=hJ (new bG.out aL.out)
          have dW:Hid (∀ w',Below wl5.heap.size wl5 w'→(fun w':World=>w'.cell? ⟨gq,0,none⟩=some ((U 0 0))∧w'.cell? ⟨gq,1,none⟩=some ((U 0 1))∧w'.cell? ⟨gq,2,none⟩=some ((U 0 2))∧w'.cell? ⟨gq,3,none⟩=some ((U 0 3))∧w'.cell? ⟨gq,4,none⟩=some ((U 0 4))∧w'.cell? ⟨gq,5,none⟩=some ((U 0 5))∧w'.cell? ⟨gq,6,none⟩=some ((U 0 6))∧w'.cell? ⟨gq,7,none⟩=some ((U 0 7))∧w'.cell? ⟨gq,8,none⟩=some ((U 1 0))∧w'.cell? ⟨gq,9,none⟩=some ((U 1 1))∧w'.cell? ⟨gq,10,none⟩=some ((U 1 2))∧w'.cell? ⟨gq,11,none⟩=some ((U 1 3))∧w'.cell? ⟨gq,12,none⟩=some ((U 1 4))∧w'.cell? ⟨gq,13,none⟩=some ((U 1 5))∧w'.cell? ⟨gq,14,none⟩=some ((U 1 6))∧w'.cell? ⟨gq,15,none⟩=some ((U 1 7))∧w'.cell? ⟨gq,24,none⟩=some ((U 3 0))∧w'.cell? ⟨gq,25,none⟩=some ((U 3 1))∧w'.cell? ⟨gq,26,none⟩=some ((U 3 2))∧w'.cell? ⟨gq,27,none⟩=some ((U 3 3))∧w'.cell? ⟨gq,28,none⟩=some ((U 3 4))∧w'.cell? ⟨gq,29,none⟩=some ((U 3 5))∧w'.cell? ⟨gq,30,none⟩=some ((U 3 6))∧w'.cell? ⟨gq,31,none⟩=some ((U 3 7))∧Below wl5.heap.size wl5 w') w'):=hJ (fun w' hb=>⟨(new aA.out hb).at 0 rfl,(new aA.out hb).at 1 rfl,(new aA.out hb).at 2 rfl,(new aA.out hb).at 3 rfl,(new aA.out hb).at 4 rfl,(new aA.out hb).at 5 rfl,(new aA.out hb).at 6 rfl,(new aA.out hb).at 7 rfl,(new aA.out hb).at 8 rfl,(new aA.out hb).at 9 rfl,(new aA.out hb).at 10 rfl,(new aA.out hb).at 11 rfl,(new aA.out hb).at 12 rfl,(new aA.out hb).at 13 rfl,(new aA.out hb).at 14 rfl,(new aA.out hb).at 15 rfl,(new aA.out hb).at 24 rfl,(new aA.out hb).at 25 rfl,(new aA.out hb).at 26 rfl,(new aA.out hb).at 27 rfl,(new aA.out hb).at 28 rfl,(new aA.out hb).at 29 rfl,(new aA.out hb).at 30 rfl,(new aA.out hb).at 31 rfl,hb⟩)
          have aI:=hJ (LF.new bH.out aL.out)
          go_wp2_with fail
          obtain ⟨v28,hv28⟩:=nmz (World.drew wl5)
          have cJ:=hJ (show Below wl5.heap.size wl5 v28 by rw [←hv28]; exact (Below.refl _ _).drew)
          refine whd dW hv28 (fun hHeld=>?_)
          clear hv28
          refine tq 0 ?_
          refine tq 1 ?_
          refine tq 2 ?_
          refine tq 3 ?_
          refine tq 4 ?_
          refine tq 5 ?_
          refine tq 6 ?_
          refine tq 7 ?_
          refine tq 8 ?_
          try simp only [PT]
          refine ryy [9] ?_
          refine .cons rfl (fun K hK=>?_) .nil
          go_simp
          go_at_call 47
          refine (betweenv_any v28 ((LF.new aI.out cJ.out) 0 (by decide)) ((LF.new aI.out cJ.out) 1 (by decide)) ((LF.new aI.out cJ.out) 3 (by decide)) (pq_pz (HN.out 0 (by decide))) (pq_pz (HN.out 1 (by decide))) (pq_pz (HN.out 3 (by decide)))).mono ?_
          rw [bT.out]
          rintro e v29 ⟨rfl,hb⟩
          have gM:=hJ hb
          clear hb
          go_wp2_with fail
          have cK:=hJ (bt cJ.out gM.out)
          clear hHeld
          refine hK.out _ _ (dW.out _ cK.out) (fun hHeld=>?_)
          clear hK K
          refine tq 10 ?_
          refine tq 11 ?_
          refine tq 12 ?_
          refine tq 13 ?_
          refine tq 14 ?_
          try simp only [PT]
          refine wpAnyH_done (by kernel_rfl) ?_ _
          clear hHeld
          have aB:=hJ (new aA.out cK.out)
          have dX:Hid (∀ w',Below v29.heap.size v29 w'→(fun w':World=>w'.cell? ⟨gq,0,none⟩=some ((U 0 0))∧w'.cell? ⟨gq,1,none⟩=some ((U 0 1))∧w'.cell? ⟨gq,2,none⟩=some ((U 0 2))∧w'.cell? ⟨gq,3,none⟩=some ((U 0 3))∧w'.cell? ⟨gq,4,none⟩=some ((U 0 4))∧w'.cell? ⟨gq,5,none⟩=some ((U 0 5))∧w'.cell? ⟨gq,6,none⟩=some ((U 0 6))∧w'.cell? ⟨gq,7,none⟩=some ((U 0 7))∧w'.cell? ⟨gq,8,none⟩=some ((U 1 0))∧w'.cell? ⟨gq,9,none⟩=some ((U 1 1))∧w'.cell? ⟨gq,10,none⟩=some ((U 1 2))∧w'.cell? ⟨gq,11,none⟩=some ((U 1 3))∧w'.cell? ⟨gq,12,none⟩=some ((U 1 4))∧w'.cell? ⟨gq,13,none⟩=some ((U 1 5))∧w'.cell? ⟨gq,14,none⟩=some ((U 1 6))∧w'.cell? ⟨gq,15,none⟩=some ((U 1 7))∧w'.cell? ⟨gq,16,none⟩=some ((U 2 0))∧w'.cell? ⟨gq,17,none⟩=some ((U 2 1))∧w'.cell? ⟨gq,18,none⟩=some ((U 2 2))∧w'.cell? ⟨gq,19,none⟩=some ((U 2 3))∧w'.cell? ⟨gq,20,none⟩=some ((U 2 4))∧w'.cell? ⟨gq,21,none⟩=some ((U 2 5))∧w'.cell? ⟨gq,22,none⟩=some ((U 2 6))∧w'.cell? ⟨gq,23,none⟩=some ((U 2 7))∧Below v29.heap.size v29 w') w'):=hJ (fun w' hb=>⟨(new aB.out hb).at 0 rfl,(new aB.out hb).at 1 rfl,(new aB.out hb).at 2 rfl,(new aB.out hb).at 3 rfl,(new aB.out hb).at 4 rfl,(new aB.out hb).at 5 rfl,(new aB.out hb).at 6 rfl,(new aB.out hb).at 7 rfl,(new aB.out hb).at 8 rfl,(new aB.out hb).at 9 rfl,(new aB.out hb).at 10 rfl,(new aB.out hb).at 11 rfl,(new aB.out hb).at 12 rfl,(new aB.out hb).at 13 rfl,(new aB.out hb).at 14 rfl,(new aB.out hb).at 15 rfl,(new aB.out hb).at 16 rfl,(new aB.out hb).at 17 rfl,(new aB.out hb).at 18 rfl,(new aB.out hb).at 19 rfl,(new aB.out hb).at 20 rfl,(new aB.out hb).at 21 rfl,(new aB.out hb).at 22 rfl,(new aB.out hb).at 23 rfl,hb⟩)
          have aJ:=hJ (LF.new aI.out cK.out)
          go_wp2_with fail
          obtain ⟨v30,hv30⟩:=nmz (World.drew v29)
          have cL:=hJ (show Below v29.heap.size v29 v30 by rw [←hv30]; exact (Below.refl _ _).drew)
          refine whd dX hv30 (fun hHeld=>?_)
          clear hv30
          refine tq 0 ?_
          refine tq 1 ?_
          refine tq 2 ?_
          refine tq 3 ?_
          refine tq 4 ?_
          refine tq 5 ?_
          refine tq 6 ?_
          refine tq 7 ?_
          refine tq 8 ?_
          try simp only [PT]
          refine ryy [9] ?_
          refine .cons rfl (fun K hK=>?_) .nil
          go_simp
          go_at_call 47
          refine (betweenv_any v30 ((LF.new aJ.out cL.out) 0 (by decide)) ((LF.new aJ.out cL.out) 1 (by decide)) ((LF.new aJ.out cL.out) 2 (by decide)) (pq_pz (HN.out 0 (by decide))) (pq_pz (HN.out 1 (by decide))) (pq_pz (HN.out 2 (by decide)))).mono ?_
          rw [aY.out]
          rintro e v31 ⟨rfl,hb⟩
          have gN:=hJ hb
          clear hb
          go_wp2_with fail
          have cM:=hJ (bt cL.out gN.out)
          clear hHeld
          refine hK.out _ _ (dX.out _ cM.out) (fun hHeld=>?_)
          clear hK K
          refine tq 10 ?_
          refine tq 11 ?_
          refine tq 12 ?_
          refine tq 13 ?_
          refine tq 14 ?_
          try simp only [PT]
          refine wpAnyH_done (by kernel_rfl) ?_ _
          clear hHeld
          have aC:=hJ (new aB.out cM.out)
          have dY:Hid (∀ w',Below v31.heap.size v31 w'→(fun w':World=>w'.cell? ⟨gq,0,none⟩=some ((U 0 0))∧w'.cell? ⟨gq,1,none⟩=some ((U 0 1))∧w'.cell? ⟨gq,2,none⟩=some ((U 0 2))∧w'.cell? ⟨gq,3,none⟩=some ((U 0 3))∧w'.cell? ⟨gq,4,none⟩=some ((U 0 4))∧w'.cell? ⟨gq,5,none⟩=some ((U 0 5))∧w'.cell? ⟨gq,6,none⟩=some ((U 0 6))∧w'.cell? ⟨gq,7,none⟩=some ((U 0 7))∧w'.cell? ⟨gq,24,none⟩=some ((U 3 0))∧w'.cell? ⟨gq,25,none⟩=some ((U 3 1))∧w'.cell? ⟨gq,26,none⟩=some ((U 3 2))∧w'.cell? ⟨gq,27,none⟩=some ((U 3 3))∧w'.cell? ⟨gq,28,none⟩=some ((U 3 4))∧w'.cell? ⟨gq,29,none⟩=some ((U 3 5))∧w'.cell? ⟨gq,30,none⟩=some ((U 3 6))∧w'.cell? ⟨gq,31,none⟩=some ((U 3 7))∧w'.cell? ⟨gq,16,none⟩=some ((U 2 0))∧w'.cell? ⟨gq,17,none⟩=some ((U 2 1))∧w'.cell? ⟨gq,18,none⟩=some ((U 2 2))∧w'.cell? ⟨gq,19,none⟩=some ((U 2 3))∧w'.cell? ⟨gq,20,none⟩=some ((U 2 4))∧w'.cell? ⟨gq,21,none⟩=some ((U 2 5))∧w'.cell? ⟨gq,22,none⟩=some ((U 2 6))∧w'.cell? ⟨gq,23,none⟩=some ((U 2 7))∧Below v31.heap.size v31 w') w'):=hJ (fun w' hb=>⟨(new aC.out hb).at 0 rfl,(new aC.out hb).at 1 rfl,(new aC.out hb).at 2 rfl,(new aC.out hb).at 3 rfl,(new aC.out hb).at 4 rfl,(new aC.out hb).at 5 rfl,(new aC.out hb).at 6 rfl,(new aC.out hb).at 7 rfl,(new aC.out hb).at 24 rfl,(new aC.out hb).at 25 rfl,(new aC.out hb).at 26 rfl,(new aC.out hb).at 27 rfl,(new aC.out hb).at 28 rfl,(new aC.out hb).at 29 rfl,(new aC.out hb).at 30 rfl,(new aC.out hb).at 31 rfl,(new aC.out hb).at 16 rfl,(new aC.out hb).at 17 rfl,(new aC.out hb).at 18 rfl,(new aC.out hb).at 19 rfl,(new aC.out hb).at 20 rfl,(new aC.out hb).at 21 rfl,(new aC.out hb).at 22 rfl,(new aC.out hb).at 23 rfl,hb⟩)
          have aK:=hJ (LF.new aJ.out cM.out)
          go_wp2_with fail
          obtain ⟨v32,hv32⟩:=nmz (World.drew v31)
          have cN:=hJ (show Below v31.heap.size v31 v32 by rw [←hv32]; exact (Below.refl _ _).drew)
          refine whd dY hv32 (fun hHeld=>?_)
          clear hv32
          refine tq 0 ?_
          refine tq 1 ?_
          refine tq 2 ?_
          refine tq 3 ?_
          refine tq 4 ?_
          refine tq 5 ?_
          refine tq 6 ?_
          refine tq 7 ?_
          refine tq 8 ?_
          try simp only [PT]
          refine ryy [9] ?_
          refine .cons rfl (fun K hK=>?_) .nil
          go_simp
          go_at_call 47
          refine (betweenv_any v32 ((LF.new aK.out cN.out) 0 (by decide)) ((LF.new aK.out cN.out) 3 (by decide)) ((LF.new aK.out cN.out) 2 (by decide)) (pq_pz (HN.out 0 (by decide))) (pq_pz (HN.out 3 (by decide))) (pq_pz (HN.out 2 (by decide)))).mono ?_
          rw [aX.out]
          rintro e v33 ⟨rfl,hb⟩
          have gO:=hJ hb
          clear hb
          go_wp2_with fail
          have cO:=hJ (bt cN.out gO.out)
          clear hHeld
          refine hK.out _ _ (dY.out _ cO.out) (fun hHeld=>?_)
          clear hK K
          refine tq 10 ?_
          refine tq 11 ?_
          refine tq 12 ?_
          refine tq 13 ?_
          refine tq 14 ?_
          try simp only [PT]
          refine wpAnyH_done (by kernel_rfl) ?_ _
          clear hHeld
          have aD:=hJ (new aC.out cO.out)
          have dZ:Hid (∀ w',Below v33.heap.size v33 w'→(fun w':World=>w'.cell? ⟨gq,24,none⟩=some ((U 3 0))∧w'.cell? ⟨gq,25,none⟩=some ((U 3 1))∧w'.cell? ⟨gq,26,none⟩=some ((U 3 2))∧w'.cell? ⟨gq,27,none⟩=some ((U 3 3))∧w'.cell? ⟨gq,28,none⟩=some ((U 3 4))∧w'.cell? ⟨gq,29,none⟩=some ((U 3 5))∧w'.cell? ⟨gq,30,none⟩=some ((U 3 6))∧w'.cell? ⟨gq,31,none⟩=some ((U 3 7))∧w'.cell? ⟨gq,8,none⟩=some ((U 1 0))∧w'.cell? ⟨gq,9,none⟩=some ((U 1 1))∧w'.cell? ⟨gq,10,none⟩=some ((U 1 2))∧w'.cell? ⟨gq,11,none⟩=some ((U 1 3))∧w'.cell? ⟨gq,12,none⟩=some ((U 1 4))∧w'.cell? ⟨gq,13,none⟩=some ((U 1 5))∧w'.cell? ⟨gq,14,none⟩=some ((U 1 6))∧w'.cell? ⟨gq,15,none⟩=some ((U 1 7))∧w'.cell? ⟨gq,16,none⟩=some ((U 2 0))∧w'.cell? ⟨gq,17,none⟩=some ((U 2 1))∧w'.cell? ⟨gq,18,none⟩=some ((U 2 2))∧w'.cell? ⟨gq,19,none⟩=some ((U 2 3))∧w'.cell? ⟨gq,20,none⟩=some ((U 2 4))∧w'.cell? ⟨gq,21,none⟩=some ((U 2 5))∧w'.cell? ⟨gq,22,none⟩=some ((U 2 6))∧w'.cell? ⟨gq,23,none⟩=some ((U 2 7))∧Below v33.heap.size v33 w') w'):=hJ (fun w' hb=>⟨(new aD.out hb).at 24 rfl,(new aD.out hb).at 25 rfl,(new aD.out hb).at 26 rfl,(new aD.out hb).at 27 rfl,(new aD.out hb).at 28 rfl,(new aD.out hb).at 29 rfl,(new aD.out hb).at 30 rfl,(new aD.out hb).at 31 rfl,(new aD.out hb).at 8 rfl,(new aD.out hb).at 9 rfl,(new aD.out hb).at 10 rfl,(new aD.out hb).at 11 rfl,(new aD.out hb).at 12 rfl,(new aD.out hb).at 13 rfl,(new aD.out hb).at 14 rfl,(new aD.out hb).at 15 rfl,(new aD.out hb).at 16 rfl,(new aD.out hb).at 17 rfl,(new aD.out hb).at 18 rfl,(new aD.out hb).at 19 rfl,(new aD.out hb).at 20 rfl,(new aD.out hb).at 21 rfl,(new aD.out hb).at 22 rfl,(new aD.out hb).at 23 rfl,hb⟩)
          have aO:=hJ (LF.new aK.out cO.out)
          go_wp2_with fail
          obtain ⟨v34,hv34⟩:=nmz (World.drew v33)
          have cP:=hJ (show Below v33.heap.size v33 v34 by rw [←hv34]; exact (Below.refl _ _).drew)
          refine whd dZ hv34 (fun hHeld=>?_)
          clear hv34
          refine tq 0 ?_
          refine tq 1 ?_
          refine tq 2 ?_
          refine tq 3 ?_
          refine tq 4 ?_
          refine tq 5 ?_
          refine tq 6 ?_
          refine tq 7 ?_
          refine tq 8 ?_
          try simp only [PT]
          refine ryy [9] ?_
          refine .cons rfl (fun K hK=>?_) .nil
          go_simp
          go_at_call 47
          refine (betweenv_any v34 ((LF.new aO.out cP.out) 3 (by decide)) ((LF.new aO.out cP.out) 1 (by decide)) ((LF.new aO.out cP.out) 2 (by decide)) (pq_pz (HN.out 3 (by decide))) (pq_pz (HN.out 1 (by decide))) (pq_pz (HN.out 2 (by decide)))).mono ?_
          rw [aH.out]
          rintro e v35 ⟨rfl,hb⟩
          have gP:=hJ hb
          clear hb
          go_wp2_with fail
          have eA:=hJ (bt cP.out gP.out)
          clear hHeld
          refine hK.out _ _ (dZ.out _ eA.out) (fun hHeld=>?_)
          clear hK K
          refine tq 10 ?_
          refine tq 11 ?_
          refine tq 12 ?_
          refine tq 13 ?_
          refine tq 14 ?_
          try simp only [PT]
          refine wpAnyH_done (by kernel_rfl) ?_ _
          clear hHeld
          go_wp2_with fail
          refine (lives6_any v35).mono ?_
          rintro e w36 ⟨rfl,hb⟩
          have gQ:=hJ hb
          clear hb
          have aZ:=hJ (show Below w.heap.size w v3 by rw [←bC.out]; exact below_sto (bt bB.out aE.out) bE.out _ _)
          have bA:=hJ (bt (bt (bt (bt (bt (bt (bt aZ.out bF.out) aL.out) cK.out) cM.out) cO.out) eA.out) gQ.out)
          go_wp2
          go_ret
          exact ⟨rfl,bA.out⟩
        · have aX:=hJ aM
          have aH:=hJ aN
          have aY:=hJ (show btV (xs 0) (ys 0) (ds 0) (xs 1) (ys 1) (ds 1) (xs 2) (ys 2) (ds 2)=false by rw [bU.out,aM,aN]; rfl)
          clear aM aN
          have aA:=hJ (new bG.out aL.out)
          have eB:Hid (∀ w',Below wl5.heap.size wl5 w'→(fun w':World=>w'.cell? ⟨gq,0,none⟩=some ((U 0 0))∧w'.cell? ⟨gq,1,none⟩=some ((U 0 1))∧w'.cell? ⟨gq,2,none⟩=some ((U 0 2))∧w'.cell? ⟨gq,3,none⟩=some ((U 0 3))∧w'.cell? ⟨gq,4,none⟩=some ((U 0 4))∧w'.cell? ⟨gq,5,none⟩=some ((U 0 5))∧w'.cell? ⟨gq,6,none⟩=some ((U 0 6))∧w'.cell? ⟨gq,7,none⟩=some ((U 0 7))∧w'.cell? ⟨gq,8,none⟩=some ((U 1 0))∧w'.cell? ⟨gq,9,none⟩=some ((U 1 1))∧w'.cell? ⟨gq,10,none⟩=some ((U 1 2))∧w'.cell? ⟨gq,11,none⟩=some ((U 1 3))∧w'.cell? ⟨gq,12,none⟩=some ((U 1 4))∧w'.cell? ⟨gq,13,none⟩=some ((U 1 5))∧w'.cell? ⟨gq,14,none⟩=some ((U 1 6))∧w'.cell? ⟨gq,15,none⟩=some ((U 1 7))∧w'.cell? ⟨gq,24,none⟩=some ((U 3 0))∧w'.cell? ⟨gq,25,none⟩=some ((U 3 1))∧w'.cell? ⟨gq,26,none⟩=some ((U 3 2))∧w'.cell? ⟨gq,27,none⟩=some ((U 3 3))∧w'.cell? ⟨gq,28,none⟩=some ((U 3 4))∧w'.cell? ⟨gq,29,none⟩=some ((U 3 5))∧w'.cell? ⟨gq,30,none⟩=some ((U 3 6))∧w'.cell? ⟨gq,31,none⟩=some ((U 3 7))∧Below wl5.heap.size wl5 w') w'):=hJ (fun w' hb=>⟨(new aA.out hb).at 0 rfl,(new aA.out hb).at 1 rfl,(new aA.out hb).at 2 rfl,(new aA.out hb).at 3 rfl,(new aA.out hb).at 4 rfl,(new aA.out hb).at 5 rfl,(new aA.out hb).at 6 rfl,(new aA.out hb).at 7 rfl,(new aA.out hb).at 8 rfl,(new aA.out hb).at 9 rfl,(new aA.out hb).at 10 rfl,(new aA.out hb).at 11 rfl,(new aA.out hb).at 12 rfl,(new aA.out hb).at 13 rfl,(new aA.out hb).at 14 rfl,(new aA.out hb).at 15 rfl,(new aA.out hb).at 24 rfl,(new aA.out hb).at 25 rfl,(new aA.out hb).at 26 rfl,(new aA.out hb).at 27 rfl,(new aA.out hb).at 28 rfl,(new aA.out hb).at 29 rfl,(new aA.out hb).at 30 rfl,(new aA.out hb).at 31 rfl,hb⟩)
          have aI:=hJ (LF.new bH.out aL.out)
          go_wp2_with fail
          obtain ⟨v37,hv37⟩:=nmz (World.drew wl5)
          have cQ:=hJ (show Below wl5.heap.size wl5 v37 by rw [←hv37]; exact (Below.refl _ _).drew)
          refine whd eB hv37 (fun hHeld=>?_)
          clear hv37
          refine tq 0 ?_
          refine tq 1 ?_
          refine tq 2 ?_
          refine tq 3 ?_
          refine tq 4 ?_
          refine tq 5 ?_
          refine tq 6 ?_
          refine tq 7 ?_
          refine tq 8 ?_
          try simp only [PT]
          refine ryy [9] ?_
          refine .cons rfl (fun K hK=>?_) .nil
          go_simp
          go_at_call 47
          refine (betweenv_any v37 ((LF.new aI.out cQ.out) 0 (by decide)) ((LF.new aI.out cQ.out) 1 (by decide)) ((LF.new aI.out cQ.out) 3 (by decide)) (pq_pz (HN.out 0 (by decide))) (pq_pz (HN.out 1 (by decide))) (pq_pz (HN.out 3 (by decide)))).mono ?_
          rw [bT.out]
          rintro e v38 ⟨rfl,hb⟩
          have gR:=hJ hb
          clear hb
          go_wp2_with fail
          have cR:=hJ (bt cQ.out gR.out)
          clear hHeld
          refine hK.out _ _ (eB.out _ cR.out) (fun hHeld=>?_)
          clear hK K
          refine tq 10 ?_
          refine tq 11 ?_
          refine tq 12 ?_
          refine tq 13 ?_
          refine tq 14 ?_
          try simp only [PT]
          refine wpAnyH_done (by kernel_rfl) ?_ _
          clear hHeld
          have aB:=hJ (new aA.out cR.out)
          have eC:Hid (∀ w',Below v38.heap.size v38 w'→(fun w':World=>w'.cell? ⟨gq,0,none⟩=some ((U 0 0))∧w'.cell? ⟨gq,1,none⟩=some ((U 0 1))∧w'.cell? ⟨gq,2,none⟩=some ((U 0 2))∧w'.cell? ⟨gq,3,none⟩=some ((U 0 3))∧w'.cell? ⟨gq,4,none⟩=some ((U 0 4))∧w'.cell? ⟨gq,5,none⟩=some ((U 0 5))∧w'.cell? ⟨gq,6,none⟩=some ((U 0 6))∧w'.cell? ⟨gq,7,none⟩=some ((U 0 7))∧w'.cell? ⟨gq,8,none⟩=some ((U 1 0))∧w'.cell? ⟨gq,9,none⟩=some ((U 1 1))∧w'.cell? ⟨gq,10,none⟩=some ((U 1 2))∧w'.cell? ⟨gq,11,none⟩=some ((U 1 3))∧w'.cell? ⟨gq,12,none⟩=some ((U 1 4))∧w'.cell? ⟨gq,13,none⟩=some ((U 1 5))∧w'.cell? ⟨gq,14,none⟩=some ((U 1 6))∧w'.cell? ⟨gq,15,none⟩=some ((U 1 7))∧w'.cell? ⟨gq,16,none⟩=some ((U 2 0))∧w'.cell? ⟨gq,17,none⟩=some ((U 2 1))∧w'.cell? ⟨gq,18,none⟩=some ((U 2 2))∧w'.cell? ⟨gq,19,none⟩=some ((U 2 3))∧w'.cell? ⟨gq,20,none⟩=some ((U 2 4))∧w'.cell? ⟨gq,21,none⟩=some ((U 2 5))∧w'.cell? ⟨gq,22,none⟩=some ((U 2 6))∧w'.cell? ⟨gq,23,none⟩=some ((U 2 7))∧Below v38.heap.size v38 w') w'):=hJ (fun w' hb=>⟨(new aB.out hb).at 0 rfl,(new aB.out hb).at 1 rfl,(new aB.out hb).at 2 rfl,(new aB.out hb).at 3 rfl,(new aB.out hb).at 4 rfl,(new aB.out hb).at 5 rfl,(new aB.out hb).at 6 rfl,(new aB.out hb).at 7 rfl,(new aB.out hb).at 8 rfl,(new aB.out hb).at 9 rfl,(new aB.out hb).at 10 rfl,(new aB.out hb).at 11 rfl,(new aB.out hb).at 12 rfl,(new aB.out hb).at 13 rfl,(new aB.out hb).at 14 rfl,(new aB.out hb).at 15 rfl,(new aB.out hb).at 16 rfl,(new aB.out hb).at 17 rfl,(new aB.out hb).at 18 rfl,(new aB.out hb).at 19 rfl,(new aB.out hb).at 20 rfl,(new aB.out hb).at 21 rfl,(new aB.out hb).at 22 rfl,(new aB.out hb).at 23 rfl,hb⟩)
          have aJ:=hJ (LF.new aI.out cR.out)
          go_wp2_with fail
          obtain ⟨v39,hv39⟩:=nmz (World.drew v38)
          have cS:=hJ (show Below v38.heap.size v38 v39 by rw [←hv39]; exact (Below.refl _ _).drew)
          refine whd eC hv39 (fun hHeld=>?_)
          clear hv39
          refine tq 0 ?_
          refine tq 1 ?_
          refine tq 2 ?_
          refine tq 3 ?_
          refine tq 4 ?_
          refine tq 5 ?_
          refine tq 6 ?_
          refine tq 7 ?_
          refine tq 8 ?_
          try simp only [PT]
          refine ryy [9] ?_
          refine .cons rfl (fun K hK=>?_) .nil
          go_simp
          go_at_call 47
          refine (betweenv_any v39 ((LF.new aJ.out cS.out) 0 (by decide)) ((LF.new aJ.out cS.out) 1 (by decide)) ((LF.new aJ.out cS.out) 2 (by decide)) (pq_pz (HN.out 0 (by decide))) (pq_pz (HN.out 1 (by decide))) (pq_pz (HN.out 2 (by decide)))).mono ?_
          rw [aY.out]
          rintro e v40 ⟨rfl,hb⟩
          have gS:=hJ hb
          clear hb
          go_wp2_with fail
          have cT:=hJ (bt cS.out gS.out)
          clear hHeld
          refine hK.out _ _ (eC.out _ cT.out) (fun hHeld=>?_)
          clear hK K
          refine tq 10 ?_
          refine tq 11 ?_
          refine tq 12 ?_
          refine tq 13 ?_
          refine tq 14 ?_
          try simp only [PT]
          refine wpAnyH_done (by kernel_rfl) ?_ _
          clear hHeld
          have aC:=hJ (new aB.out cT.out)
          have eD:Hid (∀ w',Below v40.heap.size v40 w'→(fun w':World=>w'.cell? ⟨gq,0,none⟩=some ((U 0 0))∧w'.cell? ⟨gq,1,none⟩=some ((U 0 1))∧w'.cell? ⟨gq,2,none⟩=some ((U 0 2))∧w'.cell? ⟨gq,3,none⟩=some ((U 0 3))∧w'.cell? ⟨gq,4,none⟩=some ((U 0 4))∧w'.cell? ⟨gq,5,none⟩=some ((U 0 5))∧w'.cell? ⟨gq,6,none⟩=some ((U 0 6))∧w'.cell? ⟨gq,7,none⟩=some ((U 0 7))∧w'.cell? ⟨gq,24,none⟩=some ((U 3 0))∧w'.cell? ⟨gq,25,none⟩=some ((U 3 1))∧w'.cell? ⟨gq,26,none⟩=some ((U 3 2))∧w'.cell? ⟨gq,27,none⟩=some ((U 3 3))∧w'.cell? ⟨gq,28,none⟩=some ((U 3 4))∧w'.cell? ⟨gq,29,none⟩=some ((U 3 5))∧w'.cell? ⟨gq,30,none⟩=some ((U 3 6))∧w'.cell? ⟨gq,31,none⟩=some ((U 3 7))∧w'.cell? ⟨gq,16,none⟩=some ((U 2 0))∧w'.cell? ⟨gq,17,none⟩=some ((U 2 1))∧w'.cell? ⟨gq,18,none⟩=some ((U 2 2))∧w'.cell? ⟨gq,19,none⟩=some ((U 2 3))∧w'.cell? ⟨gq,20,none⟩=some ((U 2 4))∧w'.cell? ⟨gq,21,none⟩=some ((U 2 5))∧w'.cell? ⟨gq,22,none⟩=some ((U 2 6))∧w'.cell? ⟨gq,23,none⟩=some ((U 2 7))∧Below v40.heap.size v40 w') w'):=hJ (fun w' hb=>⟨(new aC.out hb).at 0 rfl,(new aC.out hb).at 1 rfl,(new aC.out hb).at 2 rfl,(new aC.out hb).at 3 rfl,(new aC.out hb).at 4 rfl,(new aC.out hb).at 5 rfl,(new aC.out hb).at 6 rfl,(new aC.out hb).at 7 rfl,(new aC.out hb).at 24 rfl,(new aC.out hb).at 25 rfl,(new aC.out hb).at 26 rfl,(new aC.out hb).at 27 rfl,(new aC.out hb).at 28 rfl,(new aC.out hb).at 29 rfl,(new aC.out hb).at 30 rfl,(new aC.out hb).at 31 rfl,(new aC.out hb).at 16 rfl,(new aC.out hb).at 17 rfl,(new aC.out hb).at 18 rfl,(new aC.out hb).at 19 rfl,(new aC.out hb).at 20 rfl,(new aC.out hb).at 21 rfl,(new aC.out hb).at 22 rfl,(new aC.out hb).at 23 rfl,hb⟩)
          have aK:=hJ (LF.new aJ.out cT.out)
          go_wp2_with fail
          obtain ⟨v41,hv41⟩:=nmz (World.drew v40)
          have cU:=hJ (show Below v40.heap.size v40 v41 by rw [←hv41]; exact (Below.refl _ _).drew)
          refine whd eD hv41 (fun hHeld=>?_)
          clear hv41
          refine tq 0 ?_
          refine tq 1 ?_
          refine tq 2 ?_
          refine tq 3 ?_
          refine tq 4 ?_
          refine tq 5 ?_
          refine tq 6 ?_
          refine tq 7 ?_
          refine tq 8 ?_
          try simp only [PT]
          refine ryy [9] ?_
          refine .cons rfl (fun K hK=>?_) .nil
          go_simp
          go_at_call 47
          refine (betweenv_any v41 ((LF.new aK.out cU.out) 0 (by decide)) ((LF.new aK.out cU.out) 3 (by decide)) ((LF.new aK.out cU.out) 2 (by decide)) (pq_pz (HN.out 0 (by decide))) (pq_pz (HN.out 3 (by decide))) (pq_pz (HN.out 2 (by decide)))).mono ?_
          rw [aX.out]
          rintro e v42 ⟨rfl,hb⟩
          have gT:=hJ hb
          clear hb
          go_wp2_with fail
          have cV:=hJ (bt cU.out gT.out)
          clear hHeld
          refine hK.out _ _ (eD.out _ cV.out) (fun hHeld=>?_)
          clear hK K
          refine tq 10 ?_
          refine tq 11 ?_
          refine tq 12 ?_
          refine tq 13 ?_
          refine tq 14 ?_
          try simp only [PT]
          refine wpAnyH_done (by kernel_rfl) ?_ _
          clear hHeld
          have aD:=hJ (new aC.out cV.out)
          have eE:Hid (∀ w',Below v42.heap.size v42 w'→(fun w':World=>w'.cell? ⟨gq,24,none⟩=some ((U 3 0))∧w'.cell? ⟨gq,25,none⟩=some ((U 3 1))∧w'.cell? ⟨gq,26,none⟩=some ((U 3 2))∧w'.cell? ⟨gq,27,none⟩=some ((U 3 3))∧w'.cell? ⟨gq,28,none⟩=some ((U 3 4))∧w'.cell? ⟨gq,29,none⟩=some ((U 3 5))∧w'.cell? ⟨gq,30,none⟩=some ((U 3 6))∧w'.cell? ⟨gq,31,none⟩=some ((U 3 7))∧w'.cell? ⟨gq,8,none⟩=some ((U 1 0))∧w'.cell? ⟨gq,9,none⟩=some ((U 1 1))∧w'.cell? ⟨gq,10,none⟩=some ((U 1 2))∧w'.cell? ⟨gq,11,none⟩=some ((U 1 3))∧w'.cell? ⟨gq,12,none⟩=some ((U 1 4))∧w'.cell? ⟨gq,13,none⟩=some ((U 1 5))∧w'.cell? ⟨gq,14,none⟩=some ((U 1 6))∧w'.cell? ⟨gq,15,none⟩=some ((U 1 7))∧w'.cell? ⟨gq,16,none⟩=some ((U 2 0))∧w'.cell? ⟨gq,17,none⟩=some ((U 2 1))∧w'.cell? ⟨gq,18,none⟩=some ((U 2 2))∧w'.cell? ⟨gq,19,none⟩=some ((U 2 3))∧w'.cell? ⟨gq,20,none⟩=some ((U 2 4))∧w'.cell? ⟨gq,21,none⟩=some ((U 2 5))∧w'.cell? ⟨gq,22,none⟩=some ((U 2 6))∧w'.cell? ⟨gq,23,none⟩=some ((U 2 7))∧Below v42.heap.size v42 w') w'):=hJ (fun w' hb=>⟨(new aD.out hb).at 24 rfl,(new aD.out hb).at 25 rfl,(new aD.out hb).at 26 rfl,(new aD.out hb).at 27 rfl,(new aD.out hb).at 28 rfl,(new aD.out hb).at 29 rfl,(new aD.out hb).at 30 rfl,(new aD.out hb).at 31 rfl,(new aD.out hb).at 8 rfl,(new aD.out hb).at 9 rfl,(new aD.out hb).at 10 rfl,(new aD.out hb).at 11 rfl,(new aD.out hb).at 12 rfl,(new aD.out hb).at 13 rfl,(new aD.out hb).at 14 rfl,(new aD.out hb).at 15 rfl,(new aD.out hb).at 16 rfl,(new aD.out hb).at 17 rfl,(new aD.out hb).at 18 rfl,(new aD.out hb).at 19 rfl,(new aD.out hb).at 20 rfl,(new aD.out hb).at 21 rfl,(new aD.out hb).at 22 rfl,(new aD.out hb).at 23 rfl,hb⟩)
          have aO:=hJ (LF.new aK.out cV.out)
          go_wp2_with fail
          obtain ⟨v43,hv43⟩:=nmz (World.drew v42)
          have cW:=hJ (show Below v42.heap.size v42 v43 by rw [←hv43]; exact (Below.refl _ _).drew)
          refine whd eE hv43 (fun hHeld=>?_)
          clear hv43
          refine tq 0 ?_
          refine tq 1 ?_
          refine tq 2 ?_
          refine tq 3 ?_
          refine tq 4 ?_
          refine tq 5 ?_
          refine tq 6 ?_
          refine tq 7 ?_
          refine tq 8 ?_
          try simp only [PT]
          refine ryy [9] ?_
          refine .cons rfl (fun K hK=>?_) .nil
          go_simp
          go_at_call 47
          refine (betweenv_any v43 ((LF.new aO.out cW.out) 3 (by decide)) ((LF.new aO.out cW.out) 1 (by decide)) ((LF.new aO.out cW.out) 2 (by decide)) (pq_pz (HN.out 3 (by decide))) (pq_pz (HN.out 1 (by decide))) (pq_pz (HN.out 2 (by decide)))).mono ?_
          rw [aH.out]
          rintro e v44 ⟨rfl,hb⟩
          have gU:=hJ hb
          clear hb
          go_wp2_with fail
          have eF:=hJ (bt cW.out gU.out)
          clear hHeld
          refine hK.out _ _ (eE.out _ eF.out) (fun hHeld=>?_)
          clear hK K
          refine tq 10 ?_
          refine tq 11 ?_
          refine tq 12 ?_
          refine tq 13 ?_
          refine tq 14 ?_
          try simp only [PT]
          refine wpAnyH_done (by kernel_rfl) ?_ _
          clear hHeld
          go_wp2_with fail
          refine (lives6_any v44).mono ?_
          rintro e w45 ⟨rfl,hb⟩
          have gV:=hJ hb
          clear hb
          have aZ:=hJ (show Below w.heap.size w v3 by rw [←bC.out]; exact below_sto (bt bB.out aE.out) bE.out _ _)
          have bA:=hJ (bt (bt (bt (bt (bt (bt (bt aZ.out bF.out) aL.out) cR.out) cT.out) cV.out) eF.out) gV.out)
          go_wp2
          go_ret
          exact ⟨rfl,bA.out⟩
  have cX:∀ (xm:Int) (ym:Int) (dm:Int) (v:World),Hid (Below w1.heap.size w1 v)→Hid ((MkR ((xs 0)*(ds 1)+(xs 1)*(ds 0)) ((ys 0)*(ds 1)+(ys 1)*(ds 0)) (2*(ds 0)*(ds 1)) xm ym dm∧Nat.gcd (Nat.gcd xm.natAbs ym.natAbs) dm.natAbs=1)∧0 < dm)→Hid (Pq xm ym dm)→F 3 (Array.setIfInBounds (Array.setIfInBounds (Array.setIfInBounds (Array.setIfInBounds L0 3 true) 6 true) 9 true) 10 true) (Act.put (Act.put (Act.put (Act.put a0 (some 25) (.agg #[.int .i64 (xs 0),.int .i64 (ys 0),.int .i64 (ds 0)])) (some 28) (.agg #[.int .i64 (xs 0),.int .i64 (ys 0),.int .i64 (ds 0)])) (some 31) (.agg #[.int .i64 (xs 1),.int .i64 (ys 1),.int .i64 (ds 1)])) (some 32) (.agg #[.int .i64 xm,.int .i64 ym,.int .i64 dm])) v:=by
    intro xm ym dm v aE aP aQ
    subst hF ha0 hL0
    simp only [PT] at dG ⊢
    have hHeld:=aG.out _ aE.out
    refine ryy [11] ?_
    refine .cons rfl (fun K hK=>?_) .nil
    go_simp
    go_at_call 46
    refine (rmid2_any (xs 0) (ys 0) (ds 0) xm ym dm v (HN.out 0 (by decide)) aQ.out).mono ?_
    rintro e v46 ⟨xt,yt,dt,rfl,hm,hb⟩
    have gW:=hJ hb
    clear hb
    have aS:=hJ (qt_of bM.out bN.out aP.out.1.1 hm)
    clear hm
    go_wp2_with fail
    have eG:=hJ (bt aE.out gW.out)
    clear hHeld
    refine hK.out _ _ (aG.out _ eG.out) (fun hHeld=>?_)
    clear hK K
    refine tq 12 ?_
    try simp only [PT]
    exact wpAnyH_cast (by kernel_rfl) (dG xm ym dm xt yt dt v46 eG aP aQ aS)
  have bD:∀ (v:World),Hid (Below w1.heap.size w1 v)→F 4 (Array.setIfInBounds (Array.setIfInBounds (Array.setIfInBounds L0 3 true) 6 true) 9 true) (Act.put (Act.put (Act.put a0 (some 25) (.agg #[.int .i64 (xs 0),.int .i64 (ys 0),.int .i64 (ds 0)])) (some 28) (.agg #[.int .i64 (xs 0),.int .i64 (ys 0),.int .i64 (ds 0)])) (some 31) (.agg #[.int .i64 (xs 1),.int .i64 (ys 1),.int .i64 (ds 1)])) v:=by
    intro  v aE
    subst hF ha0 hL0
    simp only [PT] at cX ⊢
    have hHeld:=aG.out _ aE.out
    refine ryy [10] ?_
    refine .cons rfl (fun K hK=>?_) .nil
    go_simp
    go_at_call 46
    refine (rmid2_any (xs 0) (ys 0) (ds 0) (xs 1) (ys 1) (ds 1) v (HN.out 0 (by decide)) (HN.out 1 (by decide))).mono ?_
    rintro e v47 ⟨xm,ym,dm,rfl,hm,hb⟩
    have gX:=hJ hb
    clear hb
    have aP:=hJ hm
    have aQ:=hJ (show Pq xm ym dm from mid_pq bM.out bN.out (by rw [←Int.mul_assoc]; exact hm.1.1) hm.2)
    clear hm
    go_wp2_with fail
    have eH:=hJ (bt aE.out gX.out)
    clear hHeld
    refine hK.out _ _ (aG.out _ eH.out) (fun hHeld=>?_)
    clear hK K
    try simp only [PT]
    exact wpAnyH_cast (by kernel_rfl) (cX xm ym dm v47 eH aP aQ)
  have eI:∀ (xm:Int) (ym:Int) (dm:Int) (v:World),Hid (Below w1.heap.size w1 v)→Hid ((MkR ((xs 0)*(ds 1)+(xs 1)*(ds 0)) ((ys 0)*(ds 1)+(ys 1)*(ds 0)) (2*(ds 0)*(ds 1)) xm ym dm∧Nat.gcd (Nat.gcd xm.natAbs ym.natAbs) dm.natAbs=1)∧0 < dm)→Hid (Pq xm ym dm)→F 4 (Array.setIfInBounds (Array.setIfInBounds (Array.setIfInBounds L0 6 true) 9 true) 10 true) (Act.put (Act.put (Act.put a0 (some 28) (.agg #[.int .i64 (xs 0),.int .i64 (ys 0),.int .i64 (ds 0)])) (some 31) (.agg #[.int .i64 (xs 1),.int .i64 (ys 1),.int .i64 (ds 1)])) (some 32) (.agg #[.int .i64 xm,.int .i64 ym,.int .i64 dm])) v:=by
    intro xm ym dm v aE aP aQ
    subst hF ha0 hL0
    simp only [PT] at cX ⊢
    have hHeld:=aG.out _ aE.out
    refine ryy [3] ?_
    refine .cons rfl (fun K hK=>?_) .nil
    have z48_0:=(new aF.out aE.out).at 0 rfl
    have z48_1:=(new aF.out aE.out).at 1 rfl
    have z48_2:=(new aF.out aE.out).at 2 rfl
    go_simp
    clear hHeld
    refine hK.out _ _ (aG.out _ aE.out) (fun hHeld=>?_)
    clear hK K z48_0 z48_1 z48_2
    try simp only [PT]
    exact wpAnyH_cast (by kernel_rfl) (cX xm ym dm v aE aP aQ)
  have cY:∀ (v:World),Hid (Below w1.heap.size w1 v)→F 5 (Array.setIfInBounds (Array.setIfInBounds L0 3 true) 6 true) (Act.put (Act.put a0 (some 25) (.agg #[.int .i64 (xs 0),.int .i64 (ys 0),.int .i64 (ds 0)])) (some 28) (.agg #[.int .i64 (xs 0),.int .i64 (ys 0),.int .i64 (ds 0)])) v:=by
    intro  v aE
    subst hF ha0 hL0
    simp only [PT] at bD ⊢
    have hHeld:=aG.out _ aE.out
    refine ryy [9] ?_
    refine .cons rfl (fun K hK=>?_) .nil
    have z49_0:=(new aF.out aE.out).at 3 rfl
    have z49_1:=(new aF.out aE.out).at 4 rfl
    have z49_2:=(new aF.out aE.out).at 5 rfl
    go_simp
    clear hHeld
    refine hK.out _ _ (aG.out _ aE.out) (fun hHeld=>?_)
    clear hK K z49_0 z49_1 z49_2
    try simp only [PT]
    exact wpAnyH_cast (by kernel_rfl) (bD  v aE)
  have cZ:∀ (v:World),Hid (Below w1.heap.size w1 v)→F 5 (Array.setIfInBounds (Array.setIfInBounds L0 3 true) 9 true) (Act.put (Act.put a0 (some 25) (.agg #[.int .i64 (xs 0),.int .i64 (ys 0),.int .i64 (ds 0)])) (some 31) (.agg #[.int .i64 (xs 1),.int .i64 (ys 1),.int .i64 (ds 1)])) v:=by
    intro  v aE
    subst hF ha0 hL0
    simp only [PT] at bD ⊢
    have hHeld:=aG.out _ aE.out
    refine ryy [6] ?_
    refine .cons rfl (fun K hK=>?_) .nil
    have z50_0:=(new aF.out aE.out).at 0 rfl
    have z50_1:=(new aF.out aE.out).at 1 rfl
    have z50_2:=(new aF.out aE.out).at 2 rfl
    go_simp
    clear hHeld
    refine hK.out _ _ (aG.out _ aE.out) (fun hHeld=>?_)
    clear hK K z50_0 z50_1 z50_2
    try simp only [PT]
    exact wpAnyH_cast (by kernel_rfl) (bD  v aE)
  have dA:∀ (v:World),Hid (Below w1.heap.size w1 v)→F 5 (Array.setIfInBounds (Array.setIfInBounds L0 6 true) 9 true) (Act.put (Act.put a0 (some 28) (.agg #[.int .i64 (xs 0),.int .i64 (ys 0),.int .i64 (ds 0)])) (some 31) (.agg #[.int .i64 (xs 1),.int .i64 (ys 1),.int .i64 (ds 1)])) v:=by
    intro  v aE
    subst hF ha0 hL0
    simp only [PT] at bD eI ⊢
    have hHeld:=aG.out _ aE.out
    refine ryy [3,10] ?_
    refine .cons rfl (fun K hK=>?_) ?_
    have z51_0:=(new aF.out aE.out).at 0 rfl
    have z51_1:=(new aF.out aE.out).at 1 rfl
    have z51_2:=(new aF.out aE.out).at 2 rfl
    go_simp
    clear hHeld
    refine hK.out _ _ (aG.out _ aE.out) (fun hHeld=>?_)
    clear hK K z51_0 z51_1 z51_2
    try simp only [PT]
    exact wpAnyH_cast (by kernel_rfl) (bD  v aE)
    refine .cons rfl (fun K hK=>?_) .nil
    go_simp
    go_at_call 46
    refine (rmid2_any (xs 0) (ys 0) (ds 0) (xs 1) (ys 1) (ds 1) v (HN.out 0 (by decide)) (HN.out 1 (by decide))).mono ?_
    rintro e v52 ⟨xm,ym,dm,rfl,hm,hb⟩
    have gY:=hJ hb
    clear hb
    have aP:=hJ hm
    have aQ:=hJ (show Pq xm ym dm from mid_pq bM.out bN.out (by rw [←Int.mul_assoc]; exact hm.1.1) hm.2)
    clear hm
    go_wp2_with fail
    have eJ:=hJ (bt aE.out gY.out)
    clear hHeld
    refine hK.out _ _ (aG.out _ eJ.out) (fun hHeld=>?_)
    clear hK K
    try simp only [PT]
    exact wpAnyH_cast (by kernel_rfl) (eI xm ym dm v52 eJ aP aQ)
  have eK:∀ (v:World),Hid (Below w1.heap.size w1 v)→F 6 (Array.setIfInBounds L0 3 true) (Act.put a0 (some 25) (.agg #[.int .i64 (xs 0),.int .i64 (ys 0),.int .i64 (ds 0)])) v:=by
    intro  v aE
    subst hF ha0 hL0
    simp only [PT] at cY cZ ⊢
    have hHeld:=aG.out _ aE.out
    refine ryy [6,9] ?_
    refine .cons rfl (fun K hK=>?_) ?_
    have z53_0:=(new aF.out aE.out).at 0 rfl
    have z53_1:=(new aF.out aE.out).at 1 rfl
    have z53_2:=(new aF.out aE.out).at 2 rfl
    go_simp
    clear hHeld
    refine hK.out _ _ (aG.out _ aE.out) (fun hHeld=>?_)
    clear hK K z53_0 z53_1 z53_2
    try simp only [PT]
    exact wpAnyH_cast (by kernel_rfl) (cY  v aE)
    refine .cons rfl (fun K hK=>?_) .nil
    have z54_0:=(new aF.out aE.out).at 3 rfl
    have z54_1:=(new aF.out aE.out).at 4 rfl
    have z54_2:=(new aF.out aE.out).at 5 rfl
    go_simp
    clear hHeld
    refine hK.out _ _ (aG.out _ aE.out) (fun hHeld=>?_)
    clear hK K z54_0 z54_1 z54_2
    try simp only [PT]
    exact wpAnyH_cast (by kernel_rfl) (cZ  v aE)
  have eL:∀ (v:World),Hid (Below w1.heap.size w1 v)→F 6 (Array.setIfInBounds L0 6 true) (Act.put a0 (some 28) (.agg #[.int .i64 (xs 0),.int .i64 (ys 0),.int .i64 (ds 0)])) v:=by
    intro  v aE
    subst hF ha0 hL0
    simp only [PT] at cY dA ⊢
    have hHeld:=aG.out _ aE.out
    refine ryy [3,9] ?_
    refine .cons rfl (fun K hK=>?_) ?_
    have z55_0:=(new aF.out aE.out).at 0 rfl
    have z55_1:=(new aF.out aE.out).at 1 rfl
    have z55_2:=(new aF.out aE.out).at 2 rfl
    go_simp
    clear hHeld
    refine hK.out _ _ (aG.out _ aE.out) (fun hHeld=>?_)
    clear hK K z55_0 z55_1 z55_2
    try simp only [PT]
    exact wpAnyH_cast (by kernel_rfl) (cY  v aE)
    refine .cons rfl (fun K hK=>?_) .nil
    have z56_0:=(new aF.out aE.out).at 3 rfl
    have z56_1:=(new aF.out aE.out).at 4 rfl
    have z56_2:=(new aF.out aE.out).at 5 rfl
    go_simp
    clear hHeld
    refine hK.out _ _ (aG.out _ aE.out) (fun hHeld=>?_)
    clear hK K z56_0 z56_1 z56_2
    try simp only [PT]
    exact wpAnyH_cast (by kernel_rfl) (dA  v aE)
  have eM:∀ (v:World),Hid (Below w1.heap.size w1 v)→F 6 (Array.setIfInBounds L0 9 true) (Act.put a0 (some 31) (.agg #[.int .i64 (xs 1),.int .i64 (ys 1),.int .i64 (ds 1)])) v:=by
    intro  v aE
    subst hF ha0 hL0
    simp only [PT] at cZ dA ⊢
    have hHeld:=aG.out _ aE.out
    refine ryy [3,6] ?_
    refine .cons rfl (fun K hK=>?_) ?_
    have z57_0:=(new aF.out aE.out).at 0 rfl
    have z57_1:=(new aF.out aE.out).at 1 rfl
    have z57_2:=(new aF.out aE.out).at 2 rfl
    go_simp
    clear hHeld
    refine hK.out _ _ (aG.out _ aE.out) (fun hHeld=>?_)
    clear hK K z57_0 z57_1 z57_2
    try simp only [PT]
    exact wpAnyH_cast (by kernel_rfl) (cZ  v aE)
    refine .cons rfl (fun K hK=>?_) .nil
    have z58_0:=(new aF.out aE.out).at 0 rfl
    have z58_1:=(new aF.out aE.out).at 1 rfl
    have z58_2:=(new aF.out aE.out).at 2 rfl
    go_simp
    clear hHeld
    refine hK.out _ _ (aG.out _ aE.out) (fun hHeld=>?_)
    clear hK K z58_0 z58_1 z58_2
    try simp only [PT]
    exact wpAnyH_cast (by kernel_rfl) (dA  v aE)
  subst hF ha0 hL0
  simp only [PT] at eK eL eM
  refine ryy [3,6,9] ?_
  refine .cons rfl (fun K hK=>?_) ?_
  have z59_0:=(new aF.out aH.out).at 0 rfl
  have z59_1:=(new aF.out aH.out).at 1 rfl
  have z59_2:=(new aF.out aH.out).at 2 rfl
  go_simp
  clear hHeld
  refine hK.out _ _ (aG.out _ aH.out) (fun hHeld=>?_)
  clear hK K z59_0 z59_1 z59_2
  try simp only [PT]
  exact wpAnyH_cast (by kernel_rfl) (eK  v2 aH)
  refine .cons rfl (fun K hK=>?_) ?_
  have z60_0:=(new aF.out aH.out).at 0 rfl
  have z60_1:=(new aF.out aH.out).at 1 rfl
  have z60_2:=(new aF.out aH.out).at 2 rfl
  go_simp
  clear hHeld
  refine hK.out _ _ (aG.out _ aH.out) (fun hHeld=>?_)
  clear hK K z60_0 z60_1 z60_2
  try simp only [PT]
  exact wpAnyH_cast (by kernel_rfl) (eL  v2 aH)
  refine .cons rfl (fun K hK=>?_) .nil
  have z61_0:=(new aF.out aH.out).at 3 rfl
  have z61_1:=(new aF.out aH.out).at 4 rfl
  have z61_2:=(new aF.out aH.out).at 5 rfl
  go_simp
  clear hHeld
  refine hK.out _ _ (aG.out _ aH.out) (fun hHeld=>?_)
  clear hK K z61_0 z61_1 z61_2
  try simp only [PT]
  exact wpAnyH_cast (by kernel_rfl) (eM  v2 aH)
theorem exactBetween_law (a0:Option Addr) (len0 cap0:Nat) (z0:List Int) (w:World) (w0:RowI .i64 w a0 len0 cap0 z0) :
    Calls Tryz.prog 6 #[.slice a0 len0 cap0] w fun e w'=>e=.returned (.bool true)∧Below w.heap.size w w':=by
  obtain ⟨ls,h1,h2,h3,h4⟩:=w0.open_
  exact exactBetween_walk a0 len0 cap0 ls w ⟨h4,by rw [h1]; exact h2,h3⟩
end Go.Proofs.YteggneaefggbmaaGreat
