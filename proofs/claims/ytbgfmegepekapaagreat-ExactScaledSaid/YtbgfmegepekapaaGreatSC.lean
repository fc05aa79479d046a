/- The walk of the law ExactScaled. -/
import Derived.Test.YtbgfmegepekapaaGreatSB
import Derived.Test.YtbgfmegepekapaaGreatAP
import Derived.Test.YtbgfmegepekapaaGreatRI
import Derived.Laws.BytesArg
namespace Go.Proofs.YtbgfmegepekapaaGreat
set_option maxRecDepth 100000
set_option maxHeartbeats 12800000
open Go.RowKit
attribute [local go_sem ↓] Go.wp_at_zero Go.wp_at_succ
set_option linter.unusedVariables false
set_option linter.unusedSimpArgs false
theorem co_snoc {L:List (Int × Int)} {p:Int × Int} (h:∀ q ∈ L,Co q.1∧Co q.2) (hp:Co p.1∧Co p.2):∀ q ∈ L ++ [p],Co q.1∧Co q.2:=by
 intro q hq
 rcases List.mem_append.1 hq with hq | hq
 ·exact h q hq
 ·rw [List.mem_singleton.1 hq]; exact hp
theorem pz_ms {n a b x y:Int} (hn:Nac n a b) (h:Co x∧Co y):Pz (n*x+a) (n*y+b) 1:=by
 have h1:=(ms_in hn.1 h.1 hn.2.1).2
 have h2:=(ms_in hn.1 h.2 hn.2.2).2
 unfold Pz Nk
 omega
theorem pz_wf {x y:Int} (h:Pz x y 1):(Lit.int .i64 x).wf=true∧(Lit.int .i64 y).wf=true:=by
 unfold Pz Nk at h
 exact ⟨WalkArith.wf_i64 (by omega),WalkArith.wf_i64 (by omega)⟩
theorem pfv_one {w:World} {s s':Bool} {A A':Option Addr} {n c n' c':Nat} {x:Int} (h:PF w s A n c s' A' n' c' x 1):PFv w (.bool s) (.slice A n c) (.bool s') (.slice A' n' c') (mkP x 1) (mkQ x 1):=by
 rw [(mk_one x).1,(mk_one x).2.1]
 exact ⟨_,_,_,_,_,_,_,_,rfl,rfl,rfl,rfl,h⟩
theorem exactScaled_walk (A:Option Addr) (ln c:Nat) (l:List Int) (kk xx yy:Int) (w:World) (hg:Got w (.slice A ln c) l) (hk:(Lit.int .i64 kk).wf=true) (hx:(Lit.int .i64 xx).wf=true) (hy:(Lit.int .i64 yy).wf=true) :
  Calls Tryz.prog 5 #[.slice A ln c,.int .i64 kk,.int .i64 xx,.int .i64 yy] w fun e w'=>e=.returned (.bool true)∧Below w.heap.size w w':=by
 have HG:=hJ hg
 have eT:=hJ hk
 have eU:=hJ hx
 have eV:=hJ hy
 clear hg hk hx hy
 obtain ⟨n0,hn0⟩:=nmz (aroundZ kk 16777216)
 obtain ⟨n,hn⟩:=nmz (1+n0)
 obtain ⟨a,ha⟩:=nmz (aroundZ xx 536870913 - 268435456)
 obtain ⟨b,hb⟩:=nmz (aroundZ yy 536870913 - 268435456)
 have aJ:=hJ (show Nac n a b by
  have h1:=aroundZ_in kk (n:=16777216) (by decide)
  have h2:=aroundZ_in xx (n:=536870913) (by decide)
  have h3:=aroundZ_in yy (n:=536870913) (by decide)
  unfold Nac
  omega)
 have eW:=hJ hn0
 have eX:=hJ (show IntKind.i64.wrap (1+n0)=n by rw [hn]; exact IntWalk.i64_in _ (by have:=aJ.out.1; omega))
 have eY:=hJ ha
 have eZ:=hJ hb
 clear hn0 hn ha hb
 go_enter Tryz.func5,Tryz.ntmps5
 go_wp2_with fail
 refine (aroundz_any kk 16777216 w (by decide) (by decide) eT.out).mono ?_
 rw [eW.out]
 rintro e w1 ⟨rfl,rfl⟩
 have fA:=eX.out
 go_wp2_with fail
 clear fA
 refine (bound28_any xx w eU.out).mono ?_
 rw [eY.out]
 rintro e w2 ⟨rfl,hb⟩
 have bW:=hJ hb
 clear hb
 go_wp2_with fail
 refine (bound28_any yy w2 eV.out).mono ?_
 rw [eZ.out]
 rintro e w3 ⟨rfl,hb⟩
 have bX:=hJ hb
 clear hb
 obtain ⟨x4,bY⟩:=nmz (w3.alloc (.cells #[.int .i64 a,.int .i64 b] 71))
 have bZ:=hJ (show Below w3.heap.size w3 x4 by rw [←bY]; exact ((Below.refl _ _).alloc (Nat.le_refl _) _))
 have dA:=hJ (show BX 71 x4 w3.heap.size #[.int .i64 a,.int .i64 b] by rw [←bY]; exact (BX.at rfl))
 have fB:=hJ (show w3.heap.size < x4.heap.size from dA.out.lt)
 go_wp2_with fail
 clear bY
 obtain ⟨i71,hi71,hz71,hs71,hy71⟩:=info_parts (show (Tryz.prog.info? 71).map (fun i=>(i.zero,i.size,i.bytes))=some (some (.agg #[.int .i64 0,.int .i64 0]),2,16) by kernel_rfl)
 have aA:=hJ (And.intro hi71 (And.intro hz71 (And.intro hs71 hy71)))
 clear hi71 hz71 hs71 hy71
 go_loopw [14,9,10,11] (fun tv tq ts tt wr=>∃ (i:Nat) (L:List (Int × Int)) (vq vs vt:Value),vq=tq∧vs=ts∧vt=tt∧i≤4∧tv=.int .i64 (i:Int)∧Hid (L.length=i)∧Hid (∀ p ∈ L,Co p.1∧Co p.2)∧Hid (OwnR noU wr x4.heap.size 71 2 vq i (vp (L.map id)))∧Hid (OwnR noU wr x4.heap.size 71 2 vs i (vp (L.map (msP n a b))))∧Hid (OwnR noU wr x4.heap.size 71 2 vt i (vp (L.map (mxP n a b))))∧Hid (Apt vq vs)∧Hid (Apt vq vt)∧Hid (Apt vs vt)∧Below x4.heap.size x4 wr) (fun tv _ _ _ _=>4 - (intOf tv).toNat)
 case atStart=>exact ⟨0,[],_,_,_,rfl,rfl,rfl,by omega,rfl,hJ rfl,hJ (fun p hp=>by cases hp),hJ (OwnR.nil _ _ _ _ _),hJ (OwnR.nil _ _ _ _ _),hJ (OwnR.nil _ _ _ _ _),hJ (apt_nil _),hJ (apt_nil _),hJ (apt_nil _),Below.refl _ _⟩
 case round =>
  obtain ⟨i,L,vq,vs,vt,rfl,rfl,rfl,hi,rfl,aK,aY,cA,cB,cC,cD,cE,cF,hbel⟩:=hrel
  obtain ⟨wl5,rfl⟩:∃ W:World,W=wr:=⟨_,rfl⟩
  have bP:=hJ hbel
  clear hbel
  rcases (show i < 4∨i=4 by omega) with hlt | rfl
  ·have h0i:(0:Int)≤(i:Int):=by omega
   have hli:(i:Int) < 4:=by omega
   have hli1:(i:Int) < (i:Int)+1:=by omega
   have fC:=hJ (bt (bt (bt bW.out bX.out) bZ.out) bP.out)
   have fD:=hJ (Got.new HG.out fC.out)
   go_wp2_with fail
   refine (pickz_any (.slice A ln c) l i 1048576 wl5 fD.out (by omega) (by decide) (by decide)).mono ?_
   rintro e w6 ⟨⟨pk,rfl,_,hpk⟩,rfl⟩
   have fE:=hJ hpk
   clear hpk
   go_wp2_with fail
   refine (grid_any pk wl5 fE.out).mono ?_
   rintro e w7 ⟨x,y,rfl,hcx,hcy,hb⟩
   have bQ:=hJ hb
   clear hb
   have fF:=hJ (And.intro hcx hcy)
   obtain ⟨sx,hsx⟩:=nmz (n*x+a)
   obtain ⟨sy,hsy⟩:=nmz (n*y+b)
   have cG:=hJ (show msP n a b (x,y)=(sx,sy) by unfold msP; rw [←hsx,←hsy])
   have fG:=hJ (show mxP n a b (x,y)=(sy,sx) by unfold mxP; rw [←hsx,←hsy])
   have fH:=hJ hsx
   have fI:=hJ hsy
   have dB:=hJ (And.intro (ms_i6 aJ.out.1 hcx aJ.out.2.1) (ms_i6 aJ.out.1 hcy aJ.out.2.2))
   obtain ⟨L2,hl2⟩:=nmz (L ++ [(x,y)])
   have aD:=hJ hl2
   clear hcx hcy hsx hsy hl2
   obtain ⟨x8,cH⟩:=nmz (w7.alloc (.cells #[.int .i64 x,.int .i64 y] 71))
   have bR:=hJ (show Below w7.heap.size w7 x8 by rw [←cH]; exact ((Below.refl _ _).alloc (Nat.le_refl _) _))
   have fJ:=hJ (show BX 71 x8 w7.heap.size #[.int .i64 x,.int .i64 y] by rw [←cH]; exact (BX.at rfl))
   have fK:=hJ (show OwnR noU w7 x4.heap.size 71 2 vq i (vp (L.map id)) from OwnR.new cA.out bQ.out)
   have dD:=hJ (show OwnR noU x8 x4.heap.size 71 2 vq i (vp (L.map id)) from OwnR.new fK.out bR.out)
   have fL:=hJ (show OwnR noU w7 x4.heap.size 71 2 vs i (vp (L.map (msP n a b))) from OwnR.new cB.out bQ.out)
   have dE:=hJ (show OwnR noU x8 x4.heap.size 71 2 vs i (vp (L.map (msP n a b))) from OwnR.new fL.out bR.out)
   have fM:=hJ (show OwnR noU w7 x4.heap.size 71 2 vt i (vp (L.map (mxP n a b))) from OwnR.new cC.out bQ.out)
   have dF:=hJ (show OwnR noU x8 x4.heap.size 71 2 vt i (vp (L.map (mxP n a b))) from OwnR.new fM.out bR.out)
   have cI:=hJ (bt (bt bP.out bQ.out) bR.out)
   go_wp2_with (at_builtin; refine wpList_append_okw noU rfl _ _ 69 rfl x4.heap.size 71 i71 _ 2 16 Tryz.underlying69 aA.out.1 aA.out.2.1 aA.out.2.2.1 aA.out.2.2.2 rfl rfl (by decide) vq i (vp (L.map id)) rfl dD.out ⟨w7.heap.size,0,none⟩ 1 1 [.int .i64 x,.int .i64 y] rfl rfl (BX.news fJ.out) (List.all_eq_true (p:=Value.oneCell')|>.1 rfl) rfl (by unfold maxLen; omega) (by omega) (cI.out).size (by decide) ?_; intro va wa hown hgrow hwh; refine stop_here (fun q dG=>?_))
   clear cH
   rw [dG.out]
   clear dG q
   have hown:OwnR noU wa x4.heap.size 71 2 va (i+1) (vp (L2.map id)):=by
    have h0:=hown
    rw [map_snoc (f:=id) (p:=(x,y)) rfl,aD.out] at h0
    exact h0
   have dH:=hJ hwh
   obtain ⟨aF,aL,rfl,hg1,hg2,hcap,_⟩:=hown.row (by omega)
   obtain ⟨w15,rfl⟩:∃ W,W=wa:=⟨_,rfl⟩
   have bS:=hJ (show OwnR noU w15 x4.heap.size 71 2 (.slice (some ⟨aF,0,none⟩) (i+1) aL) (i+1) (vp (L2.map id)) from hown)
   have cJ:=hJ hgrow
   clear hown hg1 hg2 hgrow hcap hwh
   have cK:=hJ (show Apt (.slice (some ⟨aF,0,none⟩) (i+1) aL) vs from Apt.grow cD.out dE.out dH.out)
   have dI:=hJ (show Apt (.slice (some ⟨aF,0,none⟩) (i+1) aL) vt from Apt.grow cE.out dF.out dH.out)
   have dJ:=hJ (show (vp (L2.map id))[i*2]?=some (.int .i64 x) by rw [←aD.out]; exact (vp_last (f:=id) aK.out (p:=(x,y)) rfl).1)
   have dK:=hJ (show (vp (L2.map id))[i*2+1]?=some (.int .i64 y) by rw [←aD.out]; exact (vp_last (f:=id) aK.out (p:=(x,y)) rfl).2)
   have aM:=hJ (show Below x4.heap.size x4 w15 from Grew.below cI.out cJ.out dD.out (Nat.le_refl _) (cI.out).size)
   have cL:=hJ (BX.new dA.out aM.out)
   have fN:=hJ (show w3.heap.size < x4.heap.size from fB.out)
   have fO:=hJ (show OwnR noU w15 x4.heap.size 71 2 vs i (vp (L.map (msP n a b))) from OwnR.grow dE.out cJ.out cD.out.symm)
   have cM:Hid (∀ w',Below w15.heap.size w15 w'→(fun w':World=>w'.cell? ⟨aF,i*2,none⟩=some (.int .i64 x)∧w'.cell? ⟨aF,i*2+1,none⟩=some (.int .i64 y)∧w'.cell? ⟨w3.heap.size,0,none⟩=some (.int .i64 a)∧w'.cell? ⟨w3.heap.size,1,none⟩=some (.int .i64 b)∧Below x4.heap.size x4 w') w'):=hJ (fun w' hb=>⟨(OwnR.new bS.out hb).at (i*2) dJ.out,(OwnR.new bS.out hb).at (i*2+1) dK.out,(BX.new cL.out hb).cell 0 rfl,(BX.new cL.out hb).cell 1 rfl,(bt aM.out hb)⟩)
   go_wp2_with fail
   obtain ⟨v19,hv19⟩:=nmz (World.drew w15)
   have fP:=hJ (show Below w15.heap.size w15 v19 by rw [←hv19]; exact (Below.refl _ _).drew)
   refine whd cM hv19 (fun hHeld=>?_)
   clear hv19
   refine tq 0 ?_
   refine tq 1 ?_
   refine tq 2 ?_
   refine tq 3 ?_
   refine tq 4 ?_
   refine tq 5 ?_
   refine tq 6 ?_
   try simp only [PT]
   refine ryy [7] ?_
   refine .cons rfl (fun K hK=>?_) .nil
   go_simp
   go_at_call 33
   refine (scaled2_any x y n a b v19 dB.out.1 dB.out.2).mono ?_
   rw [fH.out,fI.out]
   rintro e v20 ⟨rfl,hb⟩
   have fQ:=hJ hb
   clear hb
   go_wp2_with fail
   have dL:=hJ (bt fP.out fQ.out)
   clear hHeld
   refine hK.out _ _ (cM.out _ dL.out) (fun hHeld=>?_)
   clear hK K
   try simp only [PT]
   refine ryy [8] ?_
   refine .cons rfl (fun K hK=>?_) .nil
   go_simp
   have dM:=hJ ((Below.refl v20.heap.size v20).alloc (Nat.le_refl _) (.cells #[.int .i64 sx,.int .i64 sy] 71))
   have cN:=hJ (BX.lit v20 71 #[.int .i64 sx,.int .i64 sy])
   obtain ⟨v21,hV⟩:=nmz (World.alloc v20 (.cells #[.int .i64 sx,.int .i64 sy] 71))
   obtain ⟨fR,hg⟩:=nmz (v20.heap.size)
   rw [hV] at dM cN ⊢
   rw [hg] at cN ⊢
   clear hV hg
   have aB:=hJ (bt dL.out dM.out)
   clear hHeld
   refine hK.out _ _ (cM.out _ aB.out) (fun hHeld=>?_)
   clear hK K
   try simp only [PT]
   refine ryy [9] ?_
   refine .cons rfl (fun K hK=>?_) .nil
   have bT:=hJ (OwnR.new fO.out aB.out)
   have fS:=hJ (show OwnR noU w15 x4.heap.size 71 2 vt i (vp (L.map (mxP n a b))) from OwnR.grow dF.out cJ.out cE.out.symm)
   have dN:=hJ (OwnR.new fS.out aB.out)
   have dO:=hJ (OwnR.new bS.out aB.out)
   refine step_append_okw noU rfl _ _ 69 rfl x4.heap.size 71 i71 _ 2 16 Tryz.underlying69 aA.out.1 aA.out.2.1 aA.out.2.2.1 aA.out.2.2.2 rfl rfl (by decide) vs i (vp (L.map (msP n a b))) rfl bT.out ⟨fR,0,none⟩ 1 1 [.int .i64 sx,.int .i64 sy] rfl rfl (BX.news cN.out) (List.all_eq_true (p:=Value.oneCell')|>.1 rfl) rfl (by unfold maxLen; omega) (by omega) ((bt aM.out aB.out)).size (by decide) ?_
   intro va wa hown hgrow hwh
   have hown:OwnR noU wa x4.heap.size 71 2 va (i+1) (vp (L2.map (msP n a b))):=by
    have h0:=hown
    rw [map_snoc (p:=(x,y)) cG.out,aD.out] at h0
    exact h0
   have dP:=hJ hwh
   obtain ⟨aN,bG,rfl,hg1,hg2,hcap,_⟩:=hown.row (by omega)
   obtain ⟨v22,rfl⟩:∃ W,W=wa:=⟨_,rfl⟩
   have bU:=hJ (show OwnR noU v22 x4.heap.size 71 2 (.slice (some ⟨aN,0,none⟩) (i+1) bG) (i+1) (vp (L2.map (msP n a b))) from hown)
   have aZ:=hJ hgrow
   clear hown hg1 hg2 hgrow hcap hwh
   have fT:=hJ (show Below x4.heap.size x4 v22 from Grew.below (bt aM.out aB.out) aZ.out bT.out (Nat.le_refl _) ((bt aM.out aB.out)).size)
   have dQ:=hJ (OwnR.grow (OwnR.new bS.out aB.out) aZ.out cK.out)
   have dR:=hJ (BX.grow (BX.new cL.out aB.out) aZ.out (own_ne bT.out fN.out))
   clear hHeld
   refine hK.out _ _ (⟨(dQ.out.at (i*2) dJ.out),(dQ.out.at (i*2+1) dK.out),(dR.out.cell 0 rfl),(dR.out.cell 1 rfl),fT.out⟩) (fun hHeld=>?_)
   clear hK K
   refine tq 10 ?_
   try simp only [PT]
   refine wpAnyH_done (by kernel_rfl) ?_ _
   clear hHeld
   have cO:=hJ (show Apt (.slice (some ⟨aN,0,none⟩) (i+1) bG) vt from Apt.grow cF.out dN.out dP.out)
   have fU:=hJ (show Apt (.slice (some ⟨aN,0,none⟩) (i+1) bG) (.slice (some ⟨aF,0,none⟩) (i+1) aL) from Apt.grow cK.out.symm dO.out dP.out)
   have dS:=hJ (show (vp (L2.map (msP n a b)))[i*2]?=some (.int .i64 sx) by rw [←aD.out]; exact (vp_last (f:=(msP n a b)) aK.out (p:=(x,y)) cG.out).1)
   have dT:=hJ (show (vp (L2.map (msP n a b)))[i*2+1]?=some (.int .i64 sy) by rw [←aD.out]; exact (vp_last (f:=(msP n a b)) aK.out (p:=(x,y)) cG.out).2)
   have fV:=hJ (show OwnR noU v22 x4.heap.size 71 2 vt i (vp (L.map (mxP n a b))) from OwnR.grow dN.out aZ.out cF.out.symm)
   have bA:=hJ (show Below x4.heap.size x4 v22 from Grew.below (bt aM.out aB.out) aZ.out bT.out (Nat.le_refl _) ((bt aM.out aB.out)).size)
   have dU:Hid (∀ w',Below v22.heap.size v22 w'→(fun w':World=>w'.cell? ⟨aN,i*2+1,none⟩=some (.int .i64 sy)∧w'.cell? ⟨aN,i*2,none⟩=some (.int .i64 sx)∧Below x4.heap.size x4 w') w'):=hJ (fun w' hb=>⟨(OwnR.new bU.out hb).at (i*2+1) dT.out,(OwnR.new bU.out hb).at (i*2) dS.out,(bt bA.out hb)⟩)
   go_wp2_with fail
   obtain ⟨v27,hv27⟩:=nmz (World.drew v22)
   have fW:=hJ (show Below v22.heap.size v22 v27 by rw [←hv27]; exact (Below.refl _ _).drew)
   refine whd dU hv27 (fun hHeld=>?_)
   clear hv27
   refine tq 0 ?_
   refine tq 1 ?_
   refine tq 2 ?_
   refine tq 3 ?_
   refine tq 4 ?_
   refine tq 5 ?_
   refine tq 6 ?_
   refine tq 7 ?_
   refine tq 8 ?_
   refine tq 9 ?_
   refine tq 10 ?_
   refine tq 11 ?_
   try simp only [PT]
   refine ryy [12] ?_
   refine .cons rfl (fun K hK=>?_) .nil
   go_simp
   have dW:=hJ ((Below.refl v27.heap.size v27).alloc (Nat.le_refl _) (.cells #[.int .i64 sy,.int .i64 sx] 71))
   have cP:=hJ (BX.lit v27 71 #[.int .i64 sy,.int .i64 sx])
   obtain ⟨v28,hV⟩:=nmz (World.alloc v27 (.cells #[.int .i64 sy,.int .i64 sx] 71))
   obtain ⟨fX,hg⟩:=nmz (v27.heap.size)
   rw [hV] at dW cP ⊢
   rw [hg] at cP ⊢
   clear hV hg
   have aC:=hJ (bt fW.out dW.out)
   clear hHeld
   refine hK.out _ _ (dU.out _ aC.out) (fun hHeld=>?_)
   clear hK K
   try simp only [PT]
   refine ryy [13] ?_
   refine .cons rfl (fun K hK=>?_) .nil
   have cQ:=hJ (OwnR.new fV.out aC.out)
   have fY:=hJ (show OwnR noU v22 x4.heap.size 71 2 (.slice (some ⟨aF,0,none⟩) (i+1) aL) (i+1) (vp (L2.map id)) from OwnR.grow dO.out aZ.out cK.out)
   have dX:=hJ (OwnR.new fY.out aC.out)
   have dY:=hJ (OwnR.new bU.out aC.out)
   refine step_append_okw noU rfl _ _ 69 rfl x4.heap.size 71 i71 _ 2 16 Tryz.underlying69 aA.out.1 aA.out.2.1 aA.out.2.2.1 aA.out.2.2.2 rfl rfl (by decide) vt i (vp (L.map (mxP n a b))) rfl cQ.out ⟨fX,0,none⟩ 1 1 [.int .i64 sy,.int .i64 sx] rfl rfl (BX.news cP.out) (List.all_eq_true (p:=Value.oneCell')|>.1 rfl) rfl (by unfold maxLen; omega) (by omega) ((bt bA.out aC.out)).size (by decide) ?_
   intro va wa hown hgrow hwh
   have hown:OwnR noU wa x4.heap.size 71 2 va (i+1) (vp (L2.map (mxP n a b))):=by
    have h0:=hown
    rw [map_snoc (p:=(x,y)) fG.out,aD.out] at h0
    exact h0
   have dZ:=hJ hwh
   obtain ⟨cR,cS,rfl,hg1,hg2,hcap,_⟩:=hown.row (by omega)
   obtain ⟨v29,rfl⟩:∃ W,W=wa:=⟨_,rfl⟩
   have fZ:=hJ (show OwnR noU v29 x4.heap.size 71 2 (.slice (some ⟨cR,0,none⟩) (i+1) cS) (i+1) (vp (L2.map (mxP n a b))) from hown)
   have bH:=hJ hgrow
   clear hown hg1 hg2 hgrow hcap hwh
   have gA:=hJ (show Below x4.heap.size x4 v29 from Grew.below (bt bA.out aC.out) bH.out cQ.out (Nat.le_refl _) ((bt bA.out aC.out)).size)
   have eA:=hJ (OwnR.grow (OwnR.new bU.out aC.out) bH.out cO.out)
   clear hHeld
   refine hK.out _ _ (⟨(eA.out.at (i*2+1) dT.out),(eA.out.at (i*2) dS.out),gA.out⟩) (fun hHeld=>?_)
   clear hK K
   refine tq 14 ?_
   try simp only [PT]
   refine wpAnyH_done (by kernel_rfl) ?_ _
   clear hHeld
   have gB:=hJ (show Apt (.slice (some ⟨cR,0,none⟩) (i+1) cS) (.slice (some ⟨aF,0,none⟩) (i+1) aL) from Apt.grow dI.out.symm dX.out dZ.out)
   have gC:=hJ (show Apt (.slice (some ⟨cR,0,none⟩) (i+1) cS) (.slice (some ⟨aN,0,none⟩) (i+1) bG) from Apt.grow cO.out.symm dY.out dZ.out)
   have gD:=hJ (show Below x4.heap.size x4 v29 from Grew.below (bt bA.out aC.out) bH.out cQ.out (Nat.le_refl _) ((bt bA.out aC.out)).size)
   have gE:=hJ (show OwnR noU v29 x4.heap.size 71 2 (.slice (some ⟨aF,0,none⟩) (i+1) aL) (i+1) (vp (L2.map id)) from OwnR.grow dX.out bH.out dI.out)
   have gF:=hJ (show OwnR noU v29 x4.heap.size 71 2 (.slice (some ⟨aN,0,none⟩) (i+1) bG) (i+1) (vp (L2.map (msP n a b))) from OwnR.grow dY.out bH.out cO.out)
   go_wp2_with fail
   go_roundw
   case rel=>exact ⟨i+1,L2,_,_,_,rfl,rfl,rfl,by omega,by go_num,hJ (by rw [←aD.out,List.length_append,aK.out]; rfl),hJ (by rw [←aD.out]; exact co_snoc aY.out fF.out),gE,gF,fZ,hJ fU.out.symm,hJ gB.out.symm,hJ gC.out.symm,gD.out⟩
   case measure=>simp [intOf] <;> omega
  ·(try rw [show ((4:Nat):Int)=4 from rfl])
   obtain ⟨⟨x0,y0⟩,⟨x1,y1⟩,⟨x2,y2⟩,⟨x3,y3⟩,rfl⟩:=four_of aK.out
   have cT:=hJ (aY.out (x0,y0) (by simp))
   obtain ⟨u0,hu⟩:=nmz (n*x0+a)
   obtain ⟨v0,hv⟩:=nmz (n*y0+b)
   have aO:=hJ (And.intro hu hv)
   clear hu hv
   have cU:=hJ (aY.out (x1,y1) (by simp))
   obtain ⟨u1,hu⟩:=nmz (n*x1+a)
   obtain ⟨v1,hv⟩:=nmz (n*y1+b)
   have aR:=hJ (And.intro hu hv)
   clear hu hv
   have cV:=hJ (aY.out (x2,y2) (by simp))
   obtain ⟨u2,hu⟩:=nmz (n*x2+a)
   obtain ⟨v2,hv⟩:=nmz (n*y2+b)
   have aS:=hJ (And.intro hu hv)
   clear hu hv
   have gG:=hJ (aY.out (x3,y3) (by simp))
   obtain ⟨u3,hu⟩:=nmz (n*x3+a)
   obtain ⟨v3,hv⟩:=nmz (n*y3+b)
   have bJ:=hJ (And.intro hu hv)
   clear hu hv
   have hs1:[(x0,y0),(x1,y1),(x2,y2),(x3,y3)].map (msP n a b)=[(u0,v0),(u1,v1),(u2,v2),(u3,v3)]:=by
    simp only [List.map_cons,List.map_nil,msP,aO.out.1,aO.out.2,aR.out.1,aR.out.2,aS.out.1,aS.out.2,bJ.out.1,bJ.out.2]
   have ht1:[(x0,y0),(x1,y1),(x2,y2),(x3,y3)].map (mxP n a b)=[(v0,u0),(v1,u1),(v2,u2),(v3,u3)]:=by
    simp only [List.map_cons,List.map_nil,mxP,aO.out.1,aO.out.2,aR.out.1,aR.out.2,aS.out.1,aS.out.2,bJ.out.1,bJ.out.2]
   have hoq:OwnR noU wl5 x4.heap.size 71 2 vq 4 [.int .i64 x0,.int .i64 y0,.int .i64 x1,.int .i64 y1,.int .i64 x2,.int .i64 y2,.int .i64 x3,.int .i64 y3]:=by
    have h0:=cA.out
    exact h0
   have hos:OwnR noU wl5 x4.heap.size 71 2 vs 4 [.int .i64 u0,.int .i64 v0,.int .i64 u1,.int .i64 v1,.int .i64 u2,.int .i64 v2,.int .i64 u3,.int .i64 v3]:=by
    have h0:=cB.out
    rw [hs1] at h0
    exact h0
   have hot:OwnR noU wl5 x4.heap.size 71 2 vt 4 [.int .i64 v0,.int .i64 u0,.int .i64 v1,.int .i64 u1,.int .i64 v2,.int .i64 u2,.int .i64 v3,.int .i64 u3]:=by
    have h0:=cC.out
    rw [ht1] at h0
    exact h0
   clear hs1 ht1 cA cB cC cD cE cF aK aY
   obtain ⟨gq,cpq,rfl,_,hlt,_,_⟩:=hoq.row (by decide)
   have aT:=hJ hoq
   clear hoq hlt
   obtain ⟨gs,cps,rfl,_,hlt,_,_⟩:=hos.row (by decide)
   have gH:=hJ hos
   clear hos hlt
   obtain ⟨gt,cpt,rfl,_,hlt,_,_⟩:=hot.row (by decide)
   have gI:=hJ hot
   clear hot hlt
   obtain ⟨sg,sn,cv,ce,hm1,hm2,hm3,hm4,hm5⟩:=scaled_math aJ.out cT.out cU.out cV.out gG.out u0 v0 u1 v1 u2 v2 u3 v3 aO.out aR.out aS.out bJ.out
   have eB:=hJ hm1
   have bB:=hJ hm2
   have gJ:=hJ hm3
   have bC:=hJ hm4
   have gK:=hJ hm5
   have cW:=hJ (show ∀ x y:Int,Co x∧Co y→Pz (n*x+a) (n*y+b) 1 from fun x y h=>pz_ms aJ.out h)
   clear hm1 hm2 hm3 hm4 hm5
   have eC:=hJ (show Pz u0 v0 1 by rw [←aO.out.1,←aO.out.2]; exact cW.out _ _ cT.out)
   have eD:=hJ (pz_wf eC.out)
   have eE:=hJ (show Pz u1 v1 1 by rw [←aR.out.1,←aR.out.2]; exact cW.out _ _ cU.out)
   have eF:=hJ (pz_wf eE.out)
   have eG:=hJ (show Pz u2 v2 1 by rw [←aS.out.1,←aS.out.2]; exact cW.out _ _ cV.out)
   have eH:=hJ (pz_wf eG.out)
   have eI:Hid (∀ w',Below wl5.heap.size wl5 w'→(fun w':World=>w'.cell? ⟨gq,0,none⟩=some (.int .i64 x0)∧w'.cell? ⟨gq,1,none⟩=some (.int .i64 y0)∧w'.cell? ⟨gq,2,none⟩=some (.int .i64 x1)∧w'.cell? ⟨gq,3,none⟩=some (.int .i64 y1)∧w'.cell? ⟨gq,4,none⟩=some (.int .i64 x2)∧w'.cell? ⟨gq,5,none⟩=some (.int .i64 y2)∧Below wl5.heap.size wl5 w') w'):=hJ (fun w' hb=>⟨(OwnR.new aT.out hb).at 0 rfl,(OwnR.new aT.out hb).at 1 rfl,(OwnR.new aT.out hb).at 2 rfl,(OwnR.new aT.out hb).at 3 rfl,(OwnR.new aT.out hb).at 4 rfl,(OwnR.new aT.out hb).at 5 rfl,hb⟩)
   go_wp2_with fail
   obtain ⟨v35,hv35⟩:=nmz (World.drew wl5)
   have gL:=hJ (show Below wl5.heap.size wl5 v35 by rw [←hv35]; exact (Below.refl _ _).drew)
   refine whd eI hv35 (fun hHeld=>?_)
   clear hv35
   refine tq 0 ?_
   refine tq 1 ?_
   refine tq 2 ?_
   refine tq 3 ?_
   refine tq 4 ?_
   refine tq 5 ?_
   refine tq 6 ?_
   refine tq 7 ?_
   refine tq 8 ?_
   try simp only [PT]
   refine ryy [9] ?_
   refine .cons rfl (fun K hK=>?_) .nil
   go_simp
   go_at_call 34
   refine (rsideof_any x0 y0 x1 y1 x2 y2 v35 cT.out cU.out cV.out).mono ?_
   rw [eB.out.1]
   rintro e v36 ⟨rfl,hb⟩
   have gM:=hJ hb
   clear hb
   go_wp2_with fail
   have bK:=hJ (bt gL.out gM.out)
   clear hHeld
   refine hK.out _ _ (eI.out _ bK.out) (fun hHeld=>?_)
   clear hK K
   refine tq 10 ?_
   refine tq 11 ?_
   refine tq 12 ?_
   refine tq 13 ?_
   refine tq 14 ?_
   try simp only [PT]
   refine wpAnyH_done (by kernel_rfl) ?_ _
   clear hHeld
   have aU:=hJ (OwnR.new aT.out bK.out)
   have eJ:Hid (∀ w',Below v36.heap.size v36 w'→(fun w':World=>w'.cell? ⟨gq,0,none⟩=some (.int .i64 x0)∧w'.cell? ⟨gq,1,none⟩=some (.int .i64 y0)∧w'.cell? ⟨gq,2,none⟩=some (.int .i64 x1)∧w'.cell? ⟨gq,3,none⟩=some (.int .i64 y1)∧w'.cell? ⟨gq,4,none⟩=some (.int .i64 x2)∧w'.cell? ⟨gq,5,none⟩=some (.int .i64 y2)∧Below v36.heap.size v36 w') w'):=hJ (fun w' hb=>⟨(OwnR.new aU.out hb).at 0 rfl,(OwnR.new aU.out hb).at 1 rfl,(OwnR.new aU.out hb).at 2 rfl,(OwnR.new aU.out hb).at 3 rfl,(OwnR.new aU.out hb).at 4 rfl,(OwnR.new aU.out hb).at 5 rfl,hb⟩)
   go_wp2_with fail
   obtain ⟨v37,hv37⟩:=nmz (World.drew v36)
   have gN:=hJ (show Below v36.heap.size v36 v37 by rw [←hv37]; exact (Below.refl _ _).drew)
   refine whd eJ hv37 (fun hHeld=>?_)
   clear hv37
   refine tq 0 ?_
   refine tq 1 ?_
   refine tq 2 ?_
   refine tq 3 ?_
   refine tq 4 ?_
   refine tq 5 ?_
   refine tq 6 ?_
   refine tq 7 ?_
   refine tq 8 ?_
   try simp only [PT]
   refine ryy [9] ?_
   refine .cons rfl (fun K hK=>?_) .nil
   go_simp
   go_at_call 35
   refine (sideof_any x0 y0 x1 y1 x2 y2 v37).mono ?_
   rw [bB.out.1.1,bB.out.1.2]
   rintro e v38 ⟨rfl,hb⟩
   have gO:=hJ hb
   clear hb
   go_wp2_with fail
   have bL:=hJ (bt gN.out gO.out)
   clear hHeld
   refine hK.out _ _ (eJ.out _ bL.out) (fun hHeld=>?_)
   clear hK K
   refine tq 10 ?_
   refine tq 11 ?_
   refine tq 12 ?_
   refine tq 13 ?_
   refine tq 14 ?_
   try simp only [PT]
   refine wpAnyH_done (by kernel_rfl) ?_ _
   clear hHeld
   have eK:=hJ (bt bK.out bL.out)
   have aV:=hJ (OwnR.new gH.out eK.out)
   have eL:Hid (∀ w',Below v38.heap.size v38 w'→(fun w':World=>w'.cell? ⟨gs,0,none⟩=some (.int .i64 u0)∧w'.cell? ⟨gs,1,none⟩=some (.int .i64 v0)∧w'.cell? ⟨gs,2,none⟩=some (.int .i64 u1)∧w'.cell? ⟨gs,3,none⟩=some (.int .i64 v1)∧w'.cell? ⟨gs,4,none⟩=some (.int .i64 u2)∧w'.cell? ⟨gs,5,none⟩=some (.int .i64 v2)∧Below v38.heap.size v38 w') w'):=hJ (fun w' hb=>⟨(OwnR.new aV.out hb).at 0 rfl,(OwnR.new aV.out hb).at 1 rfl,(OwnR.new aV.out hb).at 2 rfl,(OwnR.new aV.out hb).at 3 rfl,(OwnR.new aV.out hb).at 4 rfl,(OwnR.new aV.out hb).at 5 rfl,hb⟩)
   go_wp2_with fail
   obtain ⟨v39,hv39⟩:=nmz (World.drew v38)
   have gP:=hJ (show Below v38.heap.size v38 v39 by rw [←hv39]; exact (Below.refl _ _).drew)
   refine whd eL hv39 (fun hHeld=>?_)
   clear hv39
   refine tq 0 ?_
   refine tq 1 ?_
   refine tq 2 ?_
   refine tq 3 ?_
   refine tq 4 ?_
   refine tq 5 ?_
   refine tq 6 ?_
   refine tq 7 ?_
   refine tq 8 ?_
   try simp only [PT]
   refine ryy [9] ?_
   refine .cons rfl (fun K hK=>?_) .nil
   go_simp
   go_at_call 35
   refine (sideof_any u0 v0 u1 v1 u2 v2 v39).mono ?_
   rw [bB.out.2.1.1,bB.out.2.1.2]
   rintro e v40 ⟨rfl,hb⟩
   have gQ:=hJ hb
   clear hb
   go_wp2_with fail
   have bD:=hJ (bt gP.out gQ.out)
   clear hHeld
   refine hK.out _ _ (eL.out _ bD.out) (fun hHeld=>?_)
   clear hK K
   refine tq 10 ?_
   refine tq 11 ?_
   refine tq 12 ?_
   refine tq 13 ?_
   refine tq 14 ?_
   try simp only [PT]
   refine wpAnyH_done (by kernel_rfl) ?_ _
   clear hHeld
   have gR:=hJ (bt eK.out bD.out)
   have aW:=hJ (OwnR.new gI.out gR.out)
   have eM:Hid (∀ w',Below v40.heap.size v40 w'→(fun w':World=>w'.cell? ⟨gt,0,none⟩=some (.int .i64 v0)∧w'.cell? ⟨gt,1,none⟩=some (.int .i64 u0)∧w'.cell? ⟨gt,2,none⟩=some (.int .i64 v1)∧w'.cell? ⟨gt,3,none⟩=some (.int .i64 u1)∧w'.cell? ⟨gt,4,none⟩=some (.int .i64 v2)∧w'.cell? ⟨gt,5,none⟩=some (.int .i64 u2)∧Below v40.heap.size v40 w') w'):=hJ (fun w' hb=>⟨(OwnR.new aW.out hb).at 0 rfl,(OwnR.new aW.out hb).at 1 rfl,(OwnR.new aW.out hb).at 2 rfl,(OwnR.new aW.out hb).at 3 rfl,(OwnR.new aW.out hb).at 4 rfl,(OwnR.new aW.out hb).at 5 rfl,hb⟩)
   go_wp2_with fail
   obtain ⟨v41,hv41⟩:=nmz (World.drew v40)
   have gS:=hJ (show Below v40.heap.size v40 v41 by rw [←hv41]; exact (Below.refl _ _).drew)
   refine whd eM hv41 (fun hHeld=>?_)
   clear hv41
   refine tq 0 ?_
   refine tq 1 ?_
   refine tq 2 ?_
   refine tq 3 ?_
   refine tq 4 ?_
   refine tq 5 ?_
   refine tq 6 ?_
   refine tq 7 ?_
   refine tq 8 ?_
   try simp only [PT]
   refine ryy [9] ?_
   refine .cons rfl (fun K hK=>?_) .nil
   go_simp
   go_at_call 35
   refine (sideof_any v0 u0 v1 u1 v2 u2 v41).mono ?_
   rw [bB.out.2.2.1,bB.out.2.2.2]
   rintro e v42 ⟨rfl,hb⟩
   have gT:=hJ hb
   clear hb
   go_wp2_with fail
   have bE:=hJ (bt gS.out gT.out)
   clear hHeld
   refine hK.out _ _ (eM.out _ bE.out) (fun hHeld=>?_)
   clear hK K
   refine tq 10 ?_
   refine tq 11 ?_
   refine tq 12 ?_
   refine tq 13 ?_
   refine tq 14 ?_
   try simp only [PT]
   refine wpAnyH_done (by kernel_rfl) ?_ _
   clear hHeld
   have gU:=hJ (bt bD.out bE.out)
   have aX:=hJ (OwnR.new aV.out gU.out)
   have bM:Hid (∀ w',Below v42.heap.size v42 w'→(fun w':World=>w'.cell? ⟨gs,0,none⟩=some (.int .i64 u0)∧w'.cell? ⟨gs,1,none⟩=some (.int .i64 v0)∧w'.cell? ⟨gs,2,none⟩=some (.int .i64 u1)∧w'.cell? ⟨gs,3,none⟩=some (.int .i64 v1)∧w'.cell? ⟨gs,4,none⟩=some (.int .i64 u2)∧w'.cell? ⟨gs,5,none⟩=some (.int .i64 v2)∧Below v42.heap.size v42 w') w'):=hJ (fun w' hb=>⟨(OwnR.new aX.out hb).at 0 rfl,(OwnR.new aX.out hb).at 1 rfl,(OwnR.new aX.out hb).at 2 rfl,(OwnR.new aX.out hb).at 3 rfl,(OwnR.new aX.out hb).at 4 rfl,(OwnR.new aX.out hb).at 5 rfl,hb⟩)
   go_wp2_with fail
   obtain ⟨v43,hv43⟩:=nmz (World.drew v42)
   have gV:=hJ (show Below v42.heap.size v42 v43 by rw [←hv43]; exact (Below.refl _ _).drew)
   refine whd bM hv43 (fun hHeld=>?_)
   clear hv43
   refine tq 0 ?_
   refine tq 1 ?_
   refine tq 2 ?_
   refine tq 4 ?_
   refine tq 5 ?_
   refine tq 6 ?_
   refine tq 8 ?_
   refine tq 9 ?_
   refine tq 10 ?_
   try simp only [PT]
   refine ryy [3] ?_
   refine .cons rfl (fun K hK=>?_) .nil
   go_simp
   go_at_call 36
   refine (pof_any u0 v0 v43 eD.out.1 eD.out.2).mono ?_
   rintro e v44 ⟨s11,A11,n11,c11,t11,B11,m11,d11,s12,A12,n12,c12,t12,B12,m12,d12,rfl,hr11,hr12,hb⟩
   have gW:=hJ hb
   have gX:=hJ hr11
   have gY:=hJ hr12
   clear hb hr11 hr12
   go_wp2_with fail
   have eN:=hJ (bt gV.out gW.out)
   clear hHeld
   refine hK.out _ _ (bM.out _ eN.out) (fun hHeld=>?_)
   clear hK K
   try simp only [PT]
   refine ryy [7] ?_
   refine .cons rfl (fun K hK=>?_) .nil
   go_simp
   go_at_call 36
   refine (pof_any u1 v1 v44 eF.out.1 eF.out.2).mono ?_
   rintro e v45 ⟨s13,A13,n13,c13,t13,B13,m13,d13,s14,A14,n14,c14,t14,B14,m14,d14,rfl,hr13,hr14,hb⟩
   have cX:=hJ hb
   have gZ:=hJ hr13
   have hA:=hJ hr14
   clear hb hr13 hr14
   go_wp2_with fail
   have eO:=hJ (bt eN.out cX.out)
   have hB:=hJ (PF.new gX.out cX.out)
   have hC:=hJ (PF.new gY.out cX.out)
   clear hHeld
   refine hK.out _ _ (bM.out _ eO.out) (fun hHeld=>?_)
   clear hK K
   try simp only [PT]
   refine ryy [11] ?_
   refine .cons rfl (fun K hK=>?_) .nil
   go_simp
   go_at_call 36
   refine (pof_any u2 v2 v45 eH.out.1 eH.out.2).mono ?_
   rintro e v46 ⟨s15,A15,n15,c15,t15,B15,m15,d15,s16,A16,n16,c16,t16,B16,m16,d16,rfl,hr15,hr16,hb⟩
   have bN:=hJ hb
   have hD:=hJ hr15
   have hE:=hJ hr16
   clear hb hr15 hr16
   go_wp2_with fail
   have eP:=hJ (bt eO.out bN.out)
   have hF:=hJ (PF.new hB.out bN.out)
   have hG:=hJ (PF.new hC.out bN.out)
   have hH:=hJ (PF.new gZ.out bN.out)
   have hI:=hJ (PF.new hA.out bN.out)
   clear hHeld
   refine hK.out _ _ (bM.out _ eP.out) (fun hHeld=>?_)
   clear hK K
   try simp only [PT]
   refine ryy [12] ?_
   refine .cons rfl (fun K hK=>?_) .nil
   go_simp
   go_at_call 25
   refine (sidev_any v46 ⟨pfv_one hF.out,pfv_one hG.out⟩ ⟨pfv_one hH.out,pfv_one hI.out⟩ ⟨pfv_one hD.out,pfv_one hE.out⟩ eC.out eE.out eG.out).mono ?_
   rw [gJ.out]
   rintro e v47 ⟨rfl,hb⟩
   have hL:=hJ hb
   clear hb
   go_wp2_with fail
   have bF:=hJ (bt eP.out hL.out)
   clear hHeld
   refine hK.out _ _ (bM.out _ bF.out) (fun hHeld=>?_)
   clear hK K
   refine tq 13 ?_
   refine tq 14 ?_
   refine tq 15 ?_
   refine tq 16 ?_
   refine tq 17 ?_
   try simp only [PT]
   refine wpAnyH_done (by kernel_rfl) ?_ _
   clear hHeld
   have ewn:IntKind.i64.wrap (-sg)=sn:=eB.out.2
   have hM:=hJ (bt (bt (bt bL.out bD.out) bE.out) bF.out)
   have aG:=hJ (OwnR.new aU.out hM.out)
   have eQ:Hid (∀ w',Below v47.heap.size v47 w'→(fun w':World=>w'.cell? ⟨gq,0,none⟩=some (.int .i64 x0)∧w'.cell? ⟨gq,1,none⟩=some (.int .i64 y0)∧w'.cell? ⟨gq,2,none⟩=some (.int .i64 x1)∧w'.cell? ⟨gq,3,none⟩=some (.int .i64 y1)∧w'.cell? ⟨gq,4,none⟩=some (.int .i64 x2)∧w'.cell? ⟨gq,5,none⟩=some (.int .i64 y2)∧w'.cell? ⟨gq,6,none⟩=some (.int .i64 x3)∧w'.cell? ⟨gq,7,none⟩=some (.int .i64 y3)∧Below v47.heap.size v47 w') w'):=hJ (fun w' hb=>⟨(OwnR.new aG.out hb).at 0 rfl,(OwnR.new aG.out hb).at 1 rfl,(OwnR.new aG.out hb).at 2 rfl,(OwnR.new aG.out hb).at 3 rfl,(OwnR.new aG.out hb).at 4 rfl,(OwnR.new aG.out hb).at 5 rfl,(OwnR.new aG.out hb).at 6 rfl,(OwnR.new aG.out hb).at 7 rfl,hb⟩)
   go_wp2_with fail
   clear ewn
   obtain ⟨v48,hv48⟩:=nmz (World.drew v47)
   have hN:=hJ (show Below v47.heap.size v47 v48 by rw [←hv48]; exact (Below.refl _ _).drew)
   refine whd eQ hv48 (fun hHeld=>?_)
   clear hv48
   refine tq 0 ?_
   refine tq 1 ?_
   refine tq 2 ?_
   refine tq 3 ?_
   refine tq 4 ?_
   refine tq 5 ?_
   refine tq 6 ?_
   refine tq 7 ?_
   refine tq 8 ?_
   refine tq 9 ?_
   refine tq 10 ?_
   refine tq 11 ?_
   try simp only [PT]
   refine ryy [12] ?_
   refine .cons rfl (fun K hK=>?_) .nil
   go_simp
   go_at_call 37
   refine (circle_any x0 y0 x1 y1 x2 y2 x3 y3 v48).mono ?_
   rw [bC.out.1.1,bC.out.1.2]
   rintro e v49 ⟨rfl,hb⟩
   have hO:=hJ hb
   clear hb
   go_wp2_with fail
   have bO:=hJ (bt hN.out hO.out)
   clear hHeld
   refine hK.out _ _ (eQ.out _ bO.out) (fun hHeld=>?_)
   clear hK K
   refine tq 13 ?_
   refine tq 14 ?_
   refine tq 15 ?_
   refine tq 16 ?_
   refine tq 17 ?_
   try simp only [PT]
   refine wpAnyH_done (by kernel_rfl) ?_ _
   clear hHeld
   have hP:=hJ (bt bF.out bO.out)
   have aH:=hJ (OwnR.new aX.out hP.out)
   have eR:Hid (∀ w',Below v49.heap.size v49 w'→(fun w':World=>w'.cell? ⟨gs,0,none⟩=some (.int .i64 u0)∧w'.cell? ⟨gs,1,none⟩=some (.int .i64 v0)∧w'.cell? ⟨gs,2,none⟩=some (.int .i64 u1)∧w'.cell? ⟨gs,3,none⟩=some (.int .i64 v1)∧w'.cell? ⟨gs,4,none⟩=some (.int .i64 u2)∧w'.cell? ⟨gs,5,none⟩=some (.int .i64 v2)∧w'.cell? ⟨gs,6,none⟩=some (.int .i64 u3)∧w'.cell? ⟨gs,7,none⟩=some (.int .i64 v3)∧Below v49.heap.size v49 w') w'):=hJ (fun w' hb=>⟨(OwnR.new aH.out hb).at 0 rfl,(OwnR.new aH.out hb).at 1 rfl,(OwnR.new aH.out hb).at 2 rfl,(OwnR.new aH.out hb).at 3 rfl,(OwnR.new aH.out hb).at 4 rfl,(OwnR.new aH.out hb).at 5 rfl,(OwnR.new aH.out hb).at 6 rfl,(OwnR.new aH.out hb).at 7 rfl,hb⟩)
   go_wp2_with fail
   obtain ⟨v50,hv50⟩:=nmz (World.drew v49)
   have hQ:=hJ (show Below v49.heap.size v49 v50 by rw [←hv50]; exact (Below.refl _ _).drew)
   refine whd eR hv50 (fun hHeld=>?_)
   clear hv50
   refine tq 0 ?_
   refine tq 1 ?_
   refine tq 2 ?_
   refine tq 3 ?_
   refine tq 4 ?_
   refine tq 5 ?_
   refine tq 6 ?_
   refine tq 7 ?_
   refine tq 8 ?_
   refine tq 9 ?_
   refine tq 10 ?_
   refine tq 11 ?_
   try simp only [PT]
   refine ryy [12] ?_
   refine .cons rfl (fun K hK=>?_) .nil
   go_simp
   go_at_call 37
   refine (circle_any u0 v0 u1 v1 u2 v2 u3 v3 v50).mono ?_
   rw [bC.out.2.1.1,bC.out.2.1.2]
   rintro e v51 ⟨rfl,hb⟩
   have hR:=hJ hb
   clear hb
   go_wp2_with fail
   have bV:=hJ (bt hQ.out hR.out)
   clear hHeld
   refine hK.out _ _ (eR.out _ bV.out) (fun hHeld=>?_)
   clear hK K
   refine tq 13 ?_
   refine tq 14 ?_
   refine tq 15 ?_
   refine tq 16 ?_
   refine tq 17 ?_
   try simp only [PT]
   refine wpAnyH_done (by kernel_rfl) ?_ _
   clear hHeld
   have hS:=hJ (bt (bt (bt bE.out bF.out) bO.out) bV.out)
   have aI:=hJ (OwnR.new aW.out hS.out)
   have eS:Hid (∀ w',Below v51.heap.size v51 w'→(fun w':World=>w'.cell? ⟨gt,0,none⟩=some (.int .i64 v0)∧w'.cell? ⟨gt,1,none⟩=some (.int .i64 u0)∧w'.cell? ⟨gt,2,none⟩=some (.int .i64 v1)∧w'.cell? ⟨gt,3,none⟩=some (.int .i64 u1)∧w'.cell? ⟨gt,4,none⟩=some (.int .i64 v2)∧w'.cell? ⟨gt,5,none⟩=some (.int .i64 u2)∧w'.cell? ⟨gt,6,none⟩=some (.int .i64 v3)∧w'.cell? ⟨gt,7,none⟩=some (.int .i64 u3)∧Below v51.heap.size v51 w') w'):=hJ (fun w' hb=>⟨(OwnR.new aI.out hb).at 0 rfl,(OwnR.new aI.out hb).at 1 rfl,(OwnR.new aI.out hb).at 2 rfl,(OwnR.new aI.out hb).at 3 rfl,(OwnR.new aI.out hb).at 4 rfl,(OwnR.new aI.out hb).at 5 rfl,(OwnR.new aI.out hb).at 6 rfl,(OwnR.new aI.out hb).at 7 rfl,hb⟩)
   go_wp2_with fail
   obtain ⟨v52,hv52⟩:=nmz (World.drew v51)
   have hT:=hJ (show Below v51.heap.size v51 v52 by rw [←hv52]; exact (Below.refl _ _).drew)
   refine whd eS hv52 (fun hHeld=>?_)
   clear hv52
   refine tq 0 ?_
   refine tq 1 ?_
   refine tq 2 ?_
   refine tq 3 ?_
   refine tq 4 ?_
   refine tq 5 ?_
   refine tq 6 ?_
   refine tq 7 ?_
   refine tq 8 ?_
   refine tq 9 ?_
   refine tq 10 ?_
   refine tq 11 ?_
   try simp only [PT]
   refine ryy [12] ?_
   refine .cons rfl (fun K hK=>?_) .nil
   go_simp
   go_at_call 37
   refine (circle_any v0 u0 v1 u1 v2 u2 v3 u3 v52).mono ?_
   rw [bC.out.2.2.1,bC.out.2.2.2]
   rintro e v53 ⟨rfl,hb⟩
   have hU:=hJ hb
   clear hb
   go_wp2_with fail
   have cY:=hJ (bt hT.out hU.out)
   clear hHeld
   refine hK.out _ _ (eS.out _ cY.out) (fun hHeld=>?_)
   clear hK K
   refine tq 13 ?_
   refine tq 14 ?_
   refine tq 15 ?_
   refine tq 16 ?_
   refine tq 17 ?_
   try simp only [PT]
   refine wpAnyH_done (by kernel_rfl) ?_ _
   clear hHeld
   rcases gK.out with ⟨hz1,hz2⟩ | ⟨hz1,hz2⟩
   ·have hy1:(ce == 1)=true:=by simp [hz2]
    have hy2:(sg == 0)=true:=by simp [hz1]
    clear hz1 hz2
    go_wp2_with fail
    refine (lives6_any v53).mono ?_
    rintro e w54 ⟨rfl,hb⟩
    have hW:=hJ hb
    clear hb
    have cZ:=hJ (bt (bt (bt (bt (bt (bt (bt (bt (bt (bt (bt (bt bW.out bX.out) bZ.out) bP.out) bK.out) bL.out) bD.out) bE.out) bF.out) bO.out) bV.out) cY.out) hW.out)
    go_wp2
    go_ret
    exact ⟨rfl,cZ.out⟩
   ·have hy1:(ce == 1)=false:=by rw [hz2]; rfl
    have hy2:(sg == 0)=false:=by simp [hz1]
    clear hz1 hz2
    go_wp2_with fail
    refine (lives6_any v53).mono ?_
    rintro e w55 ⟨rfl,hb⟩
    have hX:=hJ hb
    clear hb
    have cZ:=hJ (bt (bt (bt (bt (bt (bt (bt (bt (bt (bt (bt (bt bW.out bX.out) bZ.out) bP.out) bK.out) bL.out) bD.out) bE.out) bF.out) bO.out) bV.out) cY.out) hX.out)
    go_wp2
    go_ret
    exact ⟨rfl,cZ.out⟩
theorem exactScaled_law (a0:Option Addr) (len0 cap0:Nat) (z0:List Int) (a1 a2 a3:Int) (w:World) (w0:RowJ .i64 w a0 len0 cap0 z0) (w1:(Lit.int .i64 a1).wf=true) (w2:(Lit.int .i64 a2).wf=true) (w3:(Lit.int .i64 a3).wf=true) :
  Calls Tryz.prog 5 #[.slice a0 len0 cap0,.int .i64 a1,.int .i64 a2,.int .i64 a3] w fun e w'=>e=.returned (.bool true)∧Below w.heap.size w w':=by
 obtain ⟨ls,h1,h2,h3,h4⟩:=w0.openJ
 exact exactScaled_walk a0 len0 cap0 ls a1 a2 a3 w ⟨h4,by rw [h1]; exact h2,h3⟩ w1 w2 w3
end Go.Proofs.YtbgfmegepekapaaGreat
