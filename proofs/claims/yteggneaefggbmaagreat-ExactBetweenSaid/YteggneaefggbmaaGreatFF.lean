/- Contracts of the program's fractions: compareByParts. Conditions: as each statement has them. -/
import Derived.Test.YteggneaefggbmaaGreatFD
import Derived.Deep.RegionHeld3
import Derived.Deep.LoopGhost
import Derived.Deep.DeepCutAuto
namespace Go.Proofs.YteggneaefggbmaaGreat
set_option maxRecDepth 100000
set_option maxHeartbeats 12800000
open Go.RowKit
attribute [local go_sem ↓] Go.wp_at_zero Go.wp_at_succ
theorem quot_lt {P Q R S:Int} (hQ:0 < Q) (hS:0 < S) (h:P / Q < R / S):P*S < R*Q:=by
 have e1:P < (P / Q+1)*Q:=Int.lt_ediv_add_one_mul_self P hQ
 have e2:R / S*S≤R:=Int.ediv_mul_le R (by omega)
 have e3:(P / Q+1)*Q≤R / S*Q:=Int.mul_le_mul_of_nonneg_right (by omega) (by omega)
 have e4:P*S < R / S*Q*S:=Int.mul_lt_mul_of_pos_right (by omega) hS
 have e5:R / S*Q*S=R / S*S*Q:=by rw [Int.mul_assoc,Int.mul_comm Q S,←Int.mul_assoc]
 have e6:R / S*S*Q≤R*Q:=Int.mul_le_mul_of_nonneg_right e2 (by omega)
 omega
theorem cmp_quot_ne {P Q R S:Int} (hQ:0 < Q) (hS:0 < S) (h:cmpI (P / Q) (R / S)≠0):cmpI (P*S) (R*Q)=cmpI (P / Q) (R / S):=by
 rcases Int.lt_trichotomy (P / Q) (R / S) with h1 | h1 | h1
 ·rw [cmpI_lt' h1,cmpI_lt' (quot_lt hQ hS h1)]
 ·exact absurd (cmpI_same h1) h
 ·rw [cmpI_gt' h1,cmpI_gt' (quot_lt hS hQ h1)]
theorem cmp_quot_eq {P Q R S:Int} (h:cmpI (P / Q) (R / S)=0):cmpI (P*S) (R*Q)=cmpI (P % Q*S) (R % S*Q):=by
 have he:P / Q=R / S:=by
  rcases Int.lt_trichotomy (P / Q) (R / S) with h1 | h1 | h1
  ·rw [cmpI_lt' h1] at h; omega
  ·exact h1
  rw [cmpI_gt' h1] at h; omega
 have e1:P*S=Q*(P / Q)*S+P % Q*S:=by rw [←Int.add_mul,Int.mul_ediv_add_emod]
 have e2:R*Q=S*(R / S)*Q+R % S*Q:=by rw [←Int.add_mul,Int.mul_ediv_add_emod]
 have e3:S*(R / S)*Q=Q*(P / Q)*S:=by rw [he,Int.mul_comm S,Int.mul_comm Q,Int.mul_assoc,Int.mul_assoc,Int.mul_comm S Q]
 rw [e1,e2,e3,cmpI_add]
theorem cmp_sign {a b Q S:Int} (hQ:0 < Q) (hS:0 < S) (ha:0≤a) (hb:0≤b) (h:a=0∨b=0):cmpI (a*S) (b*Q)=cmpI (cmpI a 0) (cmpI b 0):=by
 rcases Int.lt_or_eq_of_le ha with ha | ha
 ·rcases h with h | h
  ·omega
  subst h
  have:=Int.mul_pos ha hS
  rw [Int.zero_mul,cmpI_gt' this,cmpI_gt' ha]; rfl
 ·subst ha
  rcases Int.lt_or_eq_of_le hb with hb | hb
  ·have:=Int.mul_pos hb hQ
   rw [Int.zero_mul,cmpI_lt' this,cmpI_gt' hb]; rfl
  ·subst hb
   rw [Int.zero_mul,Int.zero_mul]; rfl
theorem cmpI_cases (a b:Int):(a < b∧cmpI a b = -1)∨(a=b∧cmpI a b=0)∨(b < a∧cmpI a b=1):=by
 rcases Int.lt_trichotomy a b with h | h | h
 ·exact .inl ⟨h,cmpI_lt' h⟩
 ·exact .inr (.inl ⟨h,cmpI_same h⟩)
 ·exact .inr (.inr ⟨h,cmpI_gt' h⟩)
theorem fparts_any (p q r s:Int) (sa sb sd se:Bool) (Aa Ab Ad Ae:Option Addr) (na ca nb cb nd cd ne ce:Nat) (w:World) (hx:PI w sa Aa na ca p) (hy:PI w sb Ab nb cb q) (hz:PI w sd Ad nd cd r) (hv:PI w se Ae ne ce s) (hq:0 < q) (hs:0 < s) (hlp:p.natAbs < lim) (hlq:q.natAbs < lim) (hlr:r.natAbs < lim) (hls:s.natAbs < lim) :
  Calls Tryz.prog 107 #[.agg #[.bool sa,.slice Aa na ca],.agg #[.bool sb,.slice Ab nb cb],.agg #[.bool sd,.slice Ad nd cd],.agg #[.bool se,.slice Ae ne ce]] w fun e w'=>e=.returned (.int .i64 (cmpI (p*s) (r*q)))∧Below w.heap.size w w':=by
 obtain ⟨W,hW⟩:∃ W,(((w.alloc (.cells #[.bool sa,.slice Aa na ca] 25)).alloc (.cells #[.bool sb,.slice Ab nb cb] 25)).alloc (.cells #[.bool sd,.slice Ad nd cd] 25)).alloc (.cells #[.bool se,.slice Ae ne ce] 25)=W:=⟨_,rfl⟩
 have HK:=hJ (show Below w.heap.size w W by rw [←hW]; exact (((((Below.refl _ w).alloc (Nat.le_refl _) _).alloc (by simp) _).alloc (by simp; omega) _).alloc (by simp; omega) _))
 have aO:=hJ (show P2 25 W w.heap.size (.bool sa) (.slice Aa na ca) by rw [←hW]; exact ((W3_a _ w _ _ _ _ _ _).alloc _))
 have aP:=hJ (show P2 25 W (w.heap.size+1) (.bool sb) (.slice Ab nb cb) by rw [←hW]; exact ((W3_b _ w _ _ _ _ _ _).alloc _))
 have aU:=hJ (show P2 25 W (w.heap.size+1+1) (.bool sd) (.slice Ad nd cd) by rw [←hW]; exact ((W3_z _ w _ _ _ _ _ _).alloc _))
 have aQ:=hJ (show P2 25 W (w.heap.size+1+1+1) (.bool se) (.slice Ae ne ce) by
  rw [←hW]
  have h0:=P2.lit (((w.alloc (.cells #[.bool sa,.slice Aa na ca] 25)).alloc (.cells #[.bool sb,.slice Ab nb cb] 25)).alloc (.cells #[.bool sd,.slice Ad nd cd] 25)) 25 (.bool se) (.slice Ae ne ce)
  rw [World.size_alloc,World.size_alloc,World.size_alloc] at h0
  exact h0)
 have aV:=hJ (PIo.new hx HK.out)
 have aW:=hJ (PIo.new hy HK.out)
 have bB:=hJ (PIo.new hz HK.out)
 have bC:=hJ (PIo.new hv HK.out)
 obtain ⟨h,hh⟩:∃ h,w.heap.size=h:=⟨_,rfl⟩
 have HH:=hJ hh
 rw [hh] at aO aP aU aQ
 have cT:=hJ (And.intro hq (And.intro hs (And.intro hlp (And.intro hlq (And.intro hlr hls)))))
 clear hx hy hz hv hq hs hlp hlq hlr hls
 go_enter Tryz.func107,Tryz.ntmps107
 go_wp2_with fail
 clear hW hh
 go_loopg [8] (q.natAbs+s.natAbs) (fun g v wr=>∃ (P Q R S:Int) (sa sb sd se:Bool) (Aa Ab Ad Ae:Option Addr) (na nb nd ne ca cb cd ce:Nat),Q.natAbs+S.natAbs=g∧P2 25 wr h (.bool sa) (.slice Aa na ca)∧P2 25 wr (h+1) (.bool sb) (.slice Ab nb cb)∧P2 25 wr (h+1+1) (.bool sd) (.slice Ad nd cd)∧P2 25 wr (h+1+1+1) (.bool se) (.slice Ae ne ce)∧PI wr sa Aa na ca P∧PI wr sb Ab nb cb Q∧PI wr sd Ad nd cd R∧PI wr se Ae ne ce S∧(0 < Q∧0 < S∧P.natAbs < lim∧Q.natAbs < lim∧R.natAbs < lim∧S.natAbs < lim)∧cmpI (P*S) (R*Q)=cmpI (p*s) (r*q)∧Below w.heap.size w wr)
 case atStart=>exact ⟨p,q,r,s,sa,sb,sd,se,Aa,Ab,Ad,Ae,na,nb,nd,ne,ca,cb,cd,ce,rfl,aO.out,aP.out,aU.out,aQ.out,aV.out,aW.out,bB.out,bC.out,cT.out,rfl,HK.out⟩
 case round =>
  clear aO aP aU aQ aV aW bB bC cT HK
  obtain ⟨P,Q,R,S,sa,sb,sd,se,Aa,Ab,Ad,Ae,na,nb,nd,ne,ca,cb,cd,ce,hg,hpa,hpb,hpd,hpe,hra,hrb,hrd,hre,hl,hc,hbel⟩:=hrel
  have HG:=hJ hg
  have HL:=hJ hl
  have HC:=hJ hc
  have HB:=hJ hbel
  have hna:=plim hra hl.2.2.1
  have hnb:=plim hrb hl.2.2.2.1
  have hnd:=plim hrd hl.2.2.2.2.1
  have hne:=plim hre hl.2.2.2.2.2
  have aO:=hJ hpa
  have aP:=hJ hpb
  have aU:=hJ hpd
  have aQ:=hJ hpe
  have aV:=hJ hra
  have aW:=hJ hrb
  have bB:=hJ hrd
  have bC:=hJ hre
  clear hg hpa hpb hpd hpe hra hrb hrd hre hl hc hbel
  obtain ⟨a0,a1⟩:=aO.out.cells
  obtain ⟨b0,b1⟩:=aP.out.cells
  go_wp2_with fail
  refine (pdiv_any P Q sa sb Aa Ab na ca nb cb wr aV.out aW.out (by omega) (by omega) (by have:=HL.out.1; omega)).mono ?_
  have aR:=hJ (show 0≤P % Q∧P % Q < Q from ⟨Int.emod_nonneg _ (by have:=HL.out.1; omega),Int.emod_lt_of_pos _ HL.out.1⟩)
  have cU:=hJ (show (P / Q).natAbs < lim from Nat.lt_of_le_of_lt (Int.natAbs_ediv_le_natAbs _ _) HL.out.2.2.1)
  have aS:=hJ (show 0≤R % S∧R % S < S from ⟨Int.emod_nonneg _ (by have:=HL.out.2.1; omega),Int.emod_lt_of_pos _ HL.out.2.1⟩)
  have cV:=hJ (show (R / S).natAbs < lim from Nat.lt_of_le_of_lt (Int.natAbs_ediv_le_natAbs _ _) HL.out.2.2.2.2.1)
  have aX:=hJ (fun h:cmpI (P / Q) (R / S)≠0=>(cmp_quot_ne HL.out.1 HL.out.2.1 h).symm.trans HC.out)
  have aN:=hJ (fun h:cmpI (P / Q) (R / S)=0=>(cmp_quot_eq h).symm.trans HC.out)
  obtain ⟨X,hX⟩:∃ X,P / Q=X:=⟨_,rfl⟩
  obtain ⟨x,hx⟩:∃ X,P % Q=X:=⟨_,rfl⟩
  obtain ⟨Y,hY⟩:∃ X,R / S=X:=⟨_,rfl⟩
  obtain ⟨y,hy⟩:∃ X,R % S=X:=⟨_,rfl⟩
  have cW:=hJ (And.intro hX (And.intro hx (And.intro hY hy)))
  rw [hX] at cU aX aN
  rw [hY] at cV aX aN
  rw [hx] at aR aN
  rw [hy] at aS aN
  rw [hX,hx]
  clear hX hx hY hy
  rintro e w1 ⟨sf,Af,nf,cf,sg,Ag,ng,cg,rfl,hr1,hr2,hb1⟩
  obtain ⟨x1,hy1⟩:∃ x,W2 25 w1 (.bool sf) (.slice Af nf cf) (.bool sg) (.slice Ag ng cg)=x:=⟨_,rfl⟩
  have fS:(w1.alloc (.cells #[.bool sf,.slice Af nf cf] 25)).alloc (.cells #[.bool sg,.slice Ag ng cg] 25)=x1:=hy1
  have aA:=hJ (show Below wr.heap.size wr x1 by rw [←hy1]; exact bt hb1 (W2_k _ _ _ _ _ _))
  have cD:=hJ (show P2 25 x1 w1.heap.size (.bool sf) (.slice Af nf cf) by rw [←hy1]; exact W2_a _ _ _ _ _ _)
  have bF:=hJ (show P2 25 x1 (w1.heap.size+1) (.bool sg) (.slice Ag ng cg) by rw [←hy1]; exact W2_z _ _ _ _ _ _)
  have cX:=hJ (show PI x1 sf Af nf cf X by rw [←hy1]; exact PIo.new hr1 (W2_k _ _ _ _ _ _))
  have cY:=hJ (show PI x1 sg Ag ng cg x by rw [←hy1]; exact PIo.new hr2 (W2_k _ _ _ _ _ _))
  obtain ⟨g1,hg1⟩:∃ g,w1.heap.size=g:=⟨_,rfl⟩
  have fT:=hJ (show wr.heap.size≤g1 by rw [←hg1]; exact hb1.size)
  rw [hg1] at cD bF
  clear hr1 hr2 hb1 hy1
  have aB:=hJ (show h+1+1+1 < g1 by have h1:=aQ.out.lt; have h2:=fT.out; omega)
  have cZ:=hJ (aO.out.new aA.out)
  have dA:=hJ (PIo.new aV.out aA.out)
  have dB:=hJ (aP.out.new aA.out)
  have dD:=hJ (PIo.new aW.out aA.out)
  have cE:=hJ (aU.out.new aA.out)
  have cF:=hJ (PIo.new bB.out aA.out)
  have cG:=hJ (aQ.out.new aA.out)
  have cH:=hJ (PIo.new bC.out aA.out)
  have dE:=hJ (bt HB.out aA.out)
  clear aO aV aP aW aU bB aQ bC HB aA
  clear a0 a1 b0 b1
  obtain ⟨d0,d1⟩:=cE.out.cells
  obtain ⟨e0,e1⟩:=cG.out.cells
  go_wp2_with fail
  clear fS hg1
  refine (pdiv_any R S sd se Ad Ae nd cd ne ce x1 cF.out cH.out (by omega) (by omega) (by have:=HL.out.2.1; omega)).mono ?_
  rw [cW.out.2.2.1,cW.out.2.2.2]
  rintro e w2 ⟨si,Ai,ni,ci,sj,Aj,nj,cj,rfl,hr1,hr2,hb1⟩
  obtain ⟨x2,hy2⟩:∃ x,W2 25 w2 (.bool si) (.slice Ai ni ci) (.bool sj) (.slice Aj nj cj)=x:=⟨_,rfl⟩
  have fU:(w2.alloc (.cells #[.bool si,.slice Ai ni ci] 25)).alloc (.cells #[.bool sj,.slice Aj nj cj] 25)=x2:=hy2
  have aA:=hJ (show Below x1.heap.size x1 x2 by rw [←hy2]; exact bt hb1 (W2_k _ _ _ _ _ _))
  have bG:=hJ (show P2 25 x2 w2.heap.size (.bool si) (.slice Ai ni ci) by rw [←hy2]; exact W2_a _ _ _ _ _ _)
  have cI:=hJ (show P2 25 x2 (w2.heap.size+1) (.bool sj) (.slice Aj nj cj) by rw [←hy2]; exact W2_z _ _ _ _ _ _)
  have bH:=hJ (show PI x2 si Ai ni ci Y by rw [←hy2]; exact PIo.new hr1 (W2_k _ _ _ _ _ _))
  have dF:=hJ (show PI x2 sj Aj nj cj y by rw [←hy2]; exact PIo.new hr2 (W2_k _ _ _ _ _ _))
  obtain ⟨g2,hg2⟩:∃ g,w2.heap.size=g:=⟨_,rfl⟩
  have fV:=hJ (show x1.heap.size≤g2 by rw [←hg2]; exact hb1.size)
  rw [hg2] at bG cI
  clear hr1 hr2 hb1 hy2
  have aC:=hJ (show g1+1 < g2 by have h1:=bF.out.lt; have h2:=fV.out; omega)
  have dG:=hJ (cZ.out.new aA.out)
  have dH:=hJ (PIo.new dA.out aA.out)
  have dI:=hJ (dB.out.new aA.out)
  have dJ:=hJ (PIo.new dD.out aA.out)
  have dK:=hJ (cE.out.new aA.out)
  have dL:=hJ (PIo.new cF.out aA.out)
  have dM:=hJ (cG.out.new aA.out)
  have dN:=hJ (PIo.new cH.out aA.out)
  have dO:=hJ (bt dE.out aA.out)
  have cJ:=hJ (cD.out.new aA.out)
  have dP:=hJ (bF.out.new aA.out)
  have bJ:=hJ (PIo.new cX.out aA.out)
  have dQ:=hJ (PIo.new cY.out aA.out)
  clear cZ dA dB dD cE cF cG cH dE cD bF cX cY aA
  clear d0 d1 e0 e1
  obtain ⟨f0,f1⟩:=cJ.out.cells
  obtain ⟨i0,i1⟩:=bG.out.cells
  go_wp2_with fail
  clear fU hg2
  refine (pcompare_any X Y sf si Af Ai nf cf ni ci x2 bJ.out bH.out (by have:=plim bJ.out cU.out; omega) (by have:=plim bH.out cV.out; omega)).mono ?_
  obtain ⟨u,hu⟩:∃ u,cmpI X Y=u:=⟨_,rfl⟩
  rw [hu] at aX aN ⊢
  clear hu
  rintro e w3 ⟨rfl,hb3⟩
  have aA:=hJ hb3
  clear hb3 f0 f1 i0 i1
  have dR:=hJ (dG.out.new aA.out)
  have dS:=hJ (PIo.new dH.out aA.out)
  have dT:=hJ (dI.out.new aA.out)
  have dU:=hJ (PIo.new dJ.out aA.out)
  have dW:=hJ (dK.out.new aA.out)
  have dX:=hJ (PIo.new dL.out aA.out)
  have dY:=hJ (dM.out.new aA.out)
  have dZ:=hJ (PIo.new dN.out aA.out)
  have cK:=hJ (bt dO.out aA.out)
  have eA:=hJ (cJ.out.new aA.out)
  have cL:=hJ (dP.out.new aA.out)
  have eB:=hJ (PIo.new bJ.out aA.out)
  have bK:=hJ (PIo.new dQ.out aA.out)
  have eC:=hJ (bG.out.new aA.out)
  have eD:=hJ (cI.out.new aA.out)
  have eE:=hJ (PIo.new bH.out aA.out)
  have cM:=hJ (PIo.new dF.out aA.out)
  clear dG dH dI dJ dK dL dM dN dO cJ dP bJ dQ bG cI bH dF aA
  by_cases hu:u=0
  ·subst hu
   have bD:=hJ (aN.out rfl)
   clear aN aX
   obtain ⟨g0,g1⟩:=cL.out.cells
   go_wp2_with fail
   have hxl:x.natAbs < lim:=by have:=aR.out; have:=HL.out.2.2.2.1; omega
   have hyl:y.natAbs < lim:=by have:=aS.out; have:=HL.out.2.2.2.2.2; omega
   have hnx:=plim bK.out hxl
   have hny:=plim cM.out hyl
   have eF:=hJ (And.intro hxl hyl)
   clear hxl hyl
   refine (sign_any x sg Ag ng cg w3 bK.out (by omega)).mono ?_
   obtain ⟨a,ha⟩:∃ a,cmpI x 0=a:=⟨_,rfl⟩
   have HA:=hJ ha
   rw [ha]
   clear ha
   rintro e w4 ⟨rfl,hb4⟩
   have aA:=hJ hb4
   clear hb4 g0 g1
   have eG:=hJ (dR.out.new aA.out)
   have fW:=hJ (PIo.new dS.out aA.out)
   have eH:=hJ (dT.out.new aA.out)
   have eI:=hJ (PIo.new dU.out aA.out)
   have eJ:=hJ (dW.out.new aA.out)
   have fX:=hJ (PIo.new dX.out aA.out)
   have eK:=hJ (dY.out.new aA.out)
   have eL:=hJ (PIo.new dZ.out aA.out)
   have cN:=hJ (bt cK.out aA.out)
   have fY:=hJ (eA.out.new aA.out)
   have bL:=hJ (cL.out.new aA.out)
   have fZ:=hJ (PIo.new eB.out aA.out)
   have cO:=hJ (PIo.new bK.out aA.out)
   have gA:=hJ (eC.out.new aA.out)
   have bE:=hJ (eD.out.new aA.out)
   have gB:=hJ (PIo.new eE.out aA.out)
   have bM:=hJ (PIo.new cM.out aA.out)
   clear dR dS dT dU dW dX dY dZ cK eA cL eB bK eC eD eE cM aA
   by_cases aY:x=0
   ·have ha0:a=0:=by rw [←HA.out,aY]; rfl
    have cP:=hJ (show x=0∨y=0 from .inl aY)
    subst ha0
    clear aY
    have aT:=hJ (show cmpI (cmpI x 0) (cmpI y 0)=cmpI (p*s) (r*q) by rw [←cmp_sign HL.out.1 HL.out.2.1 aR.out.1 aS.out.1 cP.out]; exact bD.out)
    let T:=fun w':World=>w'.cell? ⟨g1+1,0,none⟩=some (.bool sg)∧w'.cell? ⟨g1+1,1,none⟩=some (.slice Ag ng cg)∧w'.cell? ⟨g2+1,0,none⟩=some (.bool sj)∧w'.cell? ⟨g2+1,1,none⟩=some (.slice Aj nj cj)∧Below w4.heap.size w4 w'
    have K0:Hid (∀ w',Below w4.heap.size w4 w'→T w'):=hJ (fun w' hb=>⟨(bL.out.new hb).cells.1,(bL.out.new hb).cells.2,(bE.out.new hb).cells.1,(bE.out.new hb).cells.2,hb⟩)
    have K1:Hid (∀ w',T w'→Calls Tryz.prog 83 #[.agg #[.bool sg,.slice Ag ng cg]] w' fun e w''=>e=.returned (.int .i64 (cmpI x 0))∧T w'') :=
     hJ (fun w' h=>(sign_any x sg Ag ng cg w' (PIo.new cO.out h.2.2.2.2) (by omega)).mono (fun e w'' ⟨he,hb⟩=>⟨he,K0.out _ (bt h.2.2.2.2 hb)⟩))
    have K2:Hid (∀ w',T w'→Calls Tryz.prog 83 #[.agg #[.bool sj,.slice Aj nj cj]] w' fun e w''=>e=.returned (.int .i64 (cmpI y 0))∧T w'') :=
     hJ (fun w' h=>(sign_any y sj Aj nj cj w' (PIo.new bM.out h.2.2.2.2) (by omega)).mono (fun e w'' ⟨he,hb⟩=>⟨he,K0.out _ (bt h.2.2.2.2 hb)⟩))
    obtain ⟨a',ha'⟩:∃ a,cmpI x 0=a:=⟨_,rfl⟩
    obtain ⟨b',hb'⟩:∃ a,cmpI y 0=a:=⟨_,rfl⟩
    rw [ha'] at aT K1
    rw [hb'] at aT K2
    clear ha' hb'
    have K3:Hid (∀ w',Calls Tryz.prog 174 #[.int .i64 a',.int .i64 b'] w' fun e w''=>e=.returned (.int .i64 (cmpI a' b'))∧w'=w''):=hJ (fun w'=>cmpi_any a' b' (cmpI a' b') w' (cmpI_cases a' b'))
    have bR:=K0.out _ (Below.refl w4.heap.size w4).drew
    go_wp2_with fail
    go_region_held3 (fun w'=>w'.cell? ⟨g1+1,0,none⟩=some (.bool sg)∧w'.cell? ⟨g1+1,1,none⟩=some (.slice Ag ng cg)∧w'.cell? ⟨g2+1,0,none⟩=some (.bool sj)∧w'.cell? ⟨g2+1,1,none⟩=some (.slice Aj nj cj)∧Below w4.heap.size w4 w') (first | assumption | exact bR | go_keep)
     (first | (go_at_call_of 83 (Value.agg #[.bool sg,.slice Ag ng cg]); refine (K1.out _ ?_).mono ?_; assumption; rintro e w7 ⟨rfl,hc7⟩) | (go_at_call_of 83 (Value.agg #[.bool sj,.slice Aj nj cj]); refine (K2.out _ ?_).mono ?_; assumption; rintro e w8 ⟨rfl,hc8⟩) | (go_at_call 174; refine (K3.out _).mono ?_; rintro e w9 ⟨rfl,rfl⟩))
    all_goals
     rename_i hlast
     have cQ:=hJ hlast.2.2.2.2
     clear hlast
     go_wp2
     go_ret
     exact ⟨by rw [←aT.out]; rfl,bt cN.out cQ.out⟩
   have ha0:(a == 0)=false:=by rw [←HA.out]; exact cmpI_zero aY
   have gC:=hJ aY
   clear aY
   obtain ⟨j0,j1⟩:=bE.out.cells
   go_wp2_with fail
   refine (sign_any y sj Aj nj cj w4 bM.out (by omega)).mono ?_
   obtain ⟨b,hb⟩:∃ a,cmpI y 0=a:=⟨_,rfl⟩
   have eM:=hJ hb
   rw [hb]
   clear hb
   rintro e w5 ⟨rfl,hb5⟩
   have aA:=hJ hb5
   clear hb5 j0 j1
   have gD:=hJ (eG.out.new aA.out)
   have gE:=hJ (eH.out.new aA.out)
   have gF:=hJ (PIo.new eI.out aA.out)
   have gG:=hJ (eJ.out.new aA.out)
   have gH:=hJ (eK.out.new aA.out)
   have gI:=hJ (PIo.new eL.out aA.out)
   have eN:=hJ (bt cN.out aA.out)
   have cR:=hJ (bL.out.new aA.out)
   have eO:=hJ (PIo.new cO.out aA.out)
   have cS:=hJ (bE.out.new aA.out)
   have eP:=hJ (PIo.new bM.out aA.out)
   clear eG fW eH eI eJ fX eK eL cN fY bL fZ cO gA bE gB bM aA
   by_cases hy0:y=0
   ·have hb0:b=0:=by rw [←eM.out,hy0]; rfl
    have cP:=hJ (show x=0∨y=0 from .inr hy0)
    subst hb0
    clear hy0
    have aT:=hJ (show cmpI (cmpI x 0) (cmpI y 0)=cmpI (p*s) (r*q) by rw [←cmp_sign HL.out.1 HL.out.2.1 aR.out.1 aS.out.1 cP.out]; exact bD.out)
    let T:=fun w':World=>w'.cell? ⟨g1+1,0,none⟩=some (.bool sg)∧w'.cell? ⟨g1+1,1,none⟩=some (.slice Ag ng cg)∧w'.cell? ⟨g2+1,0,none⟩=some (.bool sj)∧w'.cell? ⟨g2+1,1,none⟩=some (.slice Aj nj cj)∧Below w5.heap.size w5 w'
    have K0:Hid (∀ w',Below w5.heap.size w5 w'→T w'):=hJ (fun w' hb=>⟨(cR.out.new hb).cells.1,(cR.out.new hb).cells.2,(cS.out.new hb).cells.1,(cS.out.new hb).cells.2,hb⟩)
    have K1:Hid (∀ w',T w'→Calls Tryz.prog 83 #[.agg #[.bool sg,.slice Ag ng cg]] w' fun e w''=>e=.returned (.int .i64 (cmpI x 0))∧T w'') :=
     hJ (fun w' h=>(sign_any x sg Ag ng cg w' (PIo.new eO.out h.2.2.2.2) (by omega)).mono (fun e w'' ⟨he,hb⟩=>⟨he,K0.out _ (bt h.2.2.2.2 hb)⟩))
    have K2:Hid (∀ w',T w'→Calls Tryz.prog 83 #[.agg #[.bool sj,.slice Aj nj cj]] w' fun e w''=>e=.returned (.int .i64 (cmpI y 0))∧T w'') :=
     hJ (fun w' h=>(sign_any y sj Aj nj cj w' (PIo.new eP.out h.2.2.2.2) (by omega)).mono (fun e w'' ⟨he,hb⟩=>⟨he,K0.out _ (bt h.2.2.2.2 hb)⟩))
    obtain ⟨a',ha'⟩:∃ a,cmpI x 0=a:=⟨_,rfl⟩
    obtain ⟨b',hb'⟩:∃ a,cmpI y 0=a:=⟨_,rfl⟩
    rw [ha'] at aT K1
    rw [hb'] at aT K2
    clear ha' hb'
    have K3:Hid (∀ w',Calls Tryz.prog 174 #[.int .i64 a',.int .i64 b'] w' fun e w''=>e=.returned (.int .i64 (cmpI a' b'))∧w'=w''):=hJ (fun w'=>cmpi_any a' b' (cmpI a' b') w' (cmpI_cases a' b'))
    have bR:=K0.out _ (Below.refl w5.heap.size w5).drew
    go_wp2_with fail
    go_region_held3 (fun w'=>w'.cell? ⟨g1+1,0,none⟩=some (.bool sg)∧w'.cell? ⟨g1+1,1,none⟩=some (.slice Ag ng cg)∧w'.cell? ⟨g2+1,0,none⟩=some (.bool sj)∧w'.cell? ⟨g2+1,1,none⟩=some (.slice Aj nj cj)∧Below w5.heap.size w5 w') (first | assumption | exact bR | go_keep)
     (first | (go_at_call_of 83 (Value.agg #[.bool sg,.slice Ag ng cg]); refine (K1.out _ ?_).mono ?_; assumption; rintro e w7 ⟨rfl,hc7⟩) | (go_at_call_of 83 (Value.agg #[.bool sj,.slice Aj nj cj]); refine (K2.out _ ?_).mono ?_; assumption; rintro e w8 ⟨rfl,hc8⟩) | (go_at_call 174; refine (K3.out _).mono ?_; rintro e w9 ⟨rfl,rfl⟩))
    all_goals
     rename_i hlast
     have cQ:=hJ hlast.2.2.2.2
     clear hlast
     go_wp2
     go_ret
     exact ⟨by rw [←aT.out]; rfl,bt eN.out cQ.out⟩
   have hb0:(b == 0)=false:=by rw [←eM.out]; exact cmpI_zero hy0
   have bN:=hJ (show (0 < y∧0 < x∧S.natAbs < lim∧y.natAbs < lim∧Q.natAbs < lim∧x.natAbs < lim)∧cmpI (S*x) (Q*y)=cmpI (p*s) (r*q) from ⟨⟨by have:=aS.out.1; omega,by have:=aR.out.1; have:=gC.out; omega,HL.out.2.2.2.2.2,eF.out.2,HL.out.2.2.2.1,eF.out.1⟩,by rw [Int.mul_comm S x,Int.mul_comm Q y]; exact bD.out⟩)
   clear hy0
   go_wp2_with fail
   obtain ⟨v0,hv0⟩:=nmz (World.drew w5)
   have aG:=hJ (show Below w5.heap.size w5 v0 by rw [←hv0]; exact (Below.refl _ _).drew)
   have bO:=hJ (bt eN.out aG.out)
   have RE_0:=hJ (PIo.new gI.out aG.out)
   have RJ_0:=hJ (PIo.new eP.out aG.out)
   have RB_0:=hJ (PIo.new gF.out aG.out)
   have RG_0:=hJ (PIo.new eO.out aG.out)
   have aD:=hJ (gD.out.new aG.out)
   have aZ:=hJ (gE.out.new aG.out)
   have bP:=hJ (gG.out.new aG.out)
   have bA:=hJ (gH.out.new aG.out)
   have aE:=hJ (cR.out.new aG.out)
   have aF:=hJ (cS.out.new aG.out)
   refine wp_region_held_drew (S:=(fun w':World=>w'.cell? ⟨(g1+1),0,none⟩=some (.bool sg)∧w'.cell? ⟨(g1+1),1,none⟩=some (.slice Ag ng cg)∧w'.cell? ⟨(g2+1),0,none⟩=some (.bool sj)∧w'.cell? ⟨(g2+1),1,none⟩=some (.slice Aj nj cj))) (by kernel_rfl) ?_ (fun hHeld=>?_)
   ·rw [hv0]
    exact ⟨aE.out.cells.1,aE.out.cells.2,aF.out.cells.1,aF.out.cells.2⟩
   rw [hv0] at hHeld ⊢
   clear hv0 aG
   refine tq 1 ?_
   refine tq 3 ?_
   try simp only [PT]
   refine ryy [0,2] ?_
   refine .cons rfl (fun K hK=>?_) ?_
   ·skip
    obtain ⟨z0,z1⟩:=bA.out.cells
    go_simp
    clear hHeld
    refine hK.out _ _ (⟨aE.out.cells.1,aE.out.cells.2,aF.out.cells.1,aF.out.cells.2⟩) (fun hHeld=>?_)
    clear hK K z0 z1
    try simp only [PT]
    refine ryy [2] ?_
    refine .cons rfl (fun K hK=>?_) .nil
    obtain ⟨z0,z1⟩:=aZ.out.cells
    go_simp
    clear hHeld
    refine hK.out _ _ (⟨aE.out.cells.1,aE.out.cells.2,aF.out.cells.1,aF.out.cells.2⟩) (fun hHeld=>?_)
    clear hK K z0 z1
    try simp only [PT]
    refine ryy [4] ?_
    refine .cons rfl (fun K hK=>?_) .nil
    obtain ⟨z0,z1⟩:=aD.out.cells
    have y0:=aD.out.frozen 0
    have y1:=aD.out.frozen 1
    have z9:=aD.out.lt
    go_simp
    obtain ⟨v3,hV⟩:=nmz (World.setCell (World.setCell v0 ⟨h,0,none⟩ (.bool se)) ⟨h,1,none⟩ (.slice Ae ne ce))
    rw [hV]
    have eQ:=hJ (show Below w.heap.size w v3 by rw [←hV]; exact below_box bO.out (by rw [HH.out]; omega) _ _)
    have RE_3:=hJ (show PI v3 se Ae ne ce (S) by rw [←hV]; exact PIo.box (RE_0.out) (aD.out) rfl rfl (.bool se) (.slice Ae ne ce))
    have RJ_3:=hJ (show PI v3 sj Aj nj cj (y) by rw [←hV]; exact PIo.box (RJ_0.out) (aD.out) rfl rfl (.bool se) (.slice Ae ne ce))
    have RB_3:=hJ (show PI v3 sb Ab nb cb (Q) by rw [←hV]; exact PIo.box (RB_0.out) (aD.out) rfl rfl (.bool se) (.slice Ae ne ce))
    have RG_3:=hJ (show PI v3 sg Ag ng cg (x) by rw [←hV]; exact PIo.box (RG_0.out) (aD.out) rfl rfl (.bool se) (.slice Ae ne ce))
    have aH:=hJ (show P2 25 v3 (h+1) (.bool sb) (.slice Ab nb cb) by rw [←hV]; exact aZ.out.far2 (show (h+1)≠h from (by have:=aB.out; have:=aC.out; omega)) (.bool se) (.slice Ae ne ce))
    have eR:=hJ (show P2 25 v3 (h+1+1) (.bool sd) (.slice Ad nd cd) by rw [←hV]; exact bP.out.far2 (show (h+1+1)≠h from (by have:=aB.out; have:=aC.out; omega)) (.bool se) (.slice Ae ne ce))
    have eS:=hJ (show P2 25 v3 (h+1+1+1) (.bool se) (.slice Ae ne ce) by rw [←hV]; exact bA.out.far2 (show (h+1+1+1)≠h from (by have:=aB.out; have:=aC.out; omega)) (.bool se) (.slice Ae ne ce))
    have bQ:=hJ (show P2 25 v3 (g1+1) (.bool sg) (.slice Ag ng cg) by rw [←hV]; exact aE.out.far2 (show (g1+1)≠h from (by have:=aB.out; have:=aC.out; omega)) (.bool se) (.slice Ae ne ce))
    have bS:=hJ (show P2 25 v3 (g2+1) (.bool sj) (.slice Aj nj cj) by rw [←hV]; exact aF.out.far2 (show (g2+1)≠h from (by have:=aB.out; have:=aC.out; omega)) (.bool se) (.slice Ae ne ce))
    have eT:=hJ (show P2 25 v3 h (.bool se) (.slice Ae ne ce) by rw [←hV]; exact aD.out.all (.bool se) (.slice Ae ne ce))
    clear hHeld
    refine hK.out _ _ (⟨bQ.out.cells.1,bQ.out.cells.2,bS.out.cells.1,bS.out.cells.2⟩) (fun hHeld=>?_)
    clear hK K hV z9 z0 z1 y0 y1 bO RE_0 RJ_0 RB_0 RG_0 aZ bP bA aE aF aD
    try simp only [PT]
    refine ryy [5] ?_
    refine .cons rfl (fun K hK=>?_) .nil
    obtain ⟨z0,z1⟩:=aH.out.cells
    have y0:=aH.out.frozen 0
    have y1:=aH.out.frozen 1
    have z9:=aH.out.lt
    go_simp
    obtain ⟨v4,hV⟩:=nmz (World.setCell (World.setCell v3 ⟨(h+1),0,none⟩ (.bool sj)) ⟨(h+1),1,none⟩ (.slice Aj nj cj))
    rw [hV]
    have eU:=hJ (show Below w.heap.size w v4 by rw [←hV]; exact below_box eQ.out (by rw [HH.out]; omega) _ _)
    have RE_4:=hJ (show PI v4 se Ae ne ce (S) by rw [←hV]; exact PIo.box (RE_3.out) (aH.out) rfl rfl (.bool sj) (.slice Aj nj cj))
    have RJ_4:=hJ (show PI v4 sj Aj nj cj (y) by rw [←hV]; exact PIo.box (RJ_3.out) (aH.out) rfl rfl (.bool sj) (.slice Aj nj cj))
    have RB_4:=hJ (show PI v4 sb Ab nb cb (Q) by rw [←hV]; exact PIo.box (RB_3.out) (aH.out) rfl rfl (.bool sj) (.slice Aj nj cj))
    have RG_4:=hJ (show PI v4 sg Ag ng cg (x) by rw [←hV]; exact PIo.box (RG_3.out) (aH.out) rfl rfl (.bool sj) (.slice Aj nj cj))
    have eV:=hJ (show P2 25 v4 h (.bool se) (.slice Ae ne ce) by rw [←hV]; exact eT.out.far2 (show h≠(h+1) from (by have:=aB.out; have:=aC.out; omega)) (.bool sj) (.slice Aj nj cj))
    have aI:=hJ (show P2 25 v4 (h+1+1) (.bool sd) (.slice Ad nd cd) by rw [←hV]; exact eR.out.far2 (show (h+1+1)≠(h+1) from (by have:=aB.out; have:=aC.out; omega)) (.bool sj) (.slice Aj nj cj))
    have eW:=hJ (show P2 25 v4 (h+1+1+1) (.bool se) (.slice Ae ne ce) by rw [←hV]; exact eS.out.far2 (show (h+1+1+1)≠(h+1) from (by have:=aB.out; have:=aC.out; omega)) (.bool sj) (.slice Aj nj cj))
    have bT:=hJ (show P2 25 v4 (g1+1) (.bool sg) (.slice Ag ng cg) by rw [←hV]; exact bQ.out.far2 (show (g1+1)≠(h+1) from (by have:=aB.out; have:=aC.out; omega)) (.bool sj) (.slice Aj nj cj))
    have bU:=hJ (show P2 25 v4 (g2+1) (.bool sj) (.slice Aj nj cj) by rw [←hV]; exact bS.out.far2 (show (g2+1)≠(h+1) from (by have:=aB.out; have:=aC.out; omega)) (.bool sj) (.slice Aj nj cj))
    have eX:=hJ (show P2 25 v4 (h+1) (.bool sj) (.slice Aj nj cj) by rw [←hV]; exact aH.out.all (.bool sj) (.slice Aj nj cj))
    clear hHeld
    refine hK.out _ _ (⟨bT.out.cells.1,bT.out.cells.2,bU.out.cells.1,bU.out.cells.2⟩) (fun hHeld=>?_)
    clear hK K hV z9 z0 z1 y0 y1 eQ RE_3 RJ_3 RB_3 RG_3 eT eR eS bQ bS aH
    try simp only [PT]
    refine ryy [6] ?_
    refine .cons rfl (fun K hK=>?_) .nil
    obtain ⟨z0,z1⟩:=aI.out.cells
    have y0:=aI.out.frozen 0
    have y1:=aI.out.frozen 1
    have z9:=aI.out.lt
    go_simp
    obtain ⟨v5,hV⟩:=nmz (World.setCell (World.setCell v4 ⟨(h+1+1),0,none⟩ (.bool sb)) ⟨(h+1+1),1,none⟩ (.slice Ab nb cb))
    rw [hV]
    have eY:=hJ (show Below w.heap.size w v5 by rw [←hV]; exact below_box eU.out (by rw [HH.out]; omega) _ _)
    have RE_5:=hJ (show PI v5 se Ae ne ce (S) by rw [←hV]; exact PIo.box (RE_4.out) (aI.out) rfl rfl (.bool sb) (.slice Ab nb cb))
    have RJ_5:=hJ (show PI v5 sj Aj nj cj (y) by rw [←hV]; exact PIo.box (RJ_4.out) (aI.out) rfl rfl (.bool sb) (.slice Ab nb cb))
    have RB_5:=hJ (show PI v5 sb Ab nb cb (Q) by rw [←hV]; exact PIo.box (RB_4.out) (aI.out) rfl rfl (.bool sb) (.slice Ab nb cb))
    have RG_5:=hJ (show PI v5 sg Ag ng cg (x) by rw [←hV]; exact PIo.box (RG_4.out) (aI.out) rfl rfl (.bool sb) (.slice Ab nb cb))
    have eZ:=hJ (show P2 25 v5 h (.bool se) (.slice Ae ne ce) by rw [←hV]; exact eV.out.far2 (show h≠(h+1+1) from (by have:=aB.out; have:=aC.out; omega)) (.bool sb) (.slice Ab nb cb))
    have fA:=hJ (show P2 25 v5 (h+1) (.bool sj) (.slice Aj nj cj) by rw [←hV]; exact eX.out.far2 (show (h+1)≠(h+1+1) from (by have:=aB.out; have:=aC.out; omega)) (.bool sb) (.slice Ab nb cb))
    have aJ:=hJ (show P2 25 v5 (h+1+1+1) (.bool se) (.slice Ae ne ce) by rw [←hV]; exact eW.out.far2 (show (h+1+1+1)≠(h+1+1) from (by have:=aB.out; have:=aC.out; omega)) (.bool sb) (.slice Ab nb cb))
    have bV:=hJ (show P2 25 v5 (g1+1) (.bool sg) (.slice Ag ng cg) by rw [←hV]; exact bT.out.far2 (show (g1+1)≠(h+1+1) from (by have:=aB.out; have:=aC.out; omega)) (.bool sb) (.slice Ab nb cb))
    have bW:=hJ (show P2 25 v5 (g2+1) (.bool sj) (.slice Aj nj cj) by rw [←hV]; exact bU.out.far2 (show (g2+1)≠(h+1+1) from (by have:=aB.out; have:=aC.out; omega)) (.bool sb) (.slice Ab nb cb))
    have fB:=hJ (show P2 25 v5 (h+1+1) (.bool sb) (.slice Ab nb cb) by rw [←hV]; exact aI.out.all (.bool sb) (.slice Ab nb cb))
    clear hHeld
    refine hK.out _ _ (⟨bV.out.cells.1,bV.out.cells.2,bW.out.cells.1,bW.out.cells.2⟩) (fun hHeld=>?_)
    clear hK K hV z9 z0 z1 y0 y1 eU RE_4 RJ_4 RB_4 RG_4 eV eX eW bT bU aI
    try simp only [PT]
    refine ryy [7] ?_
    refine .cons rfl (fun K hK=>?_) .nil
    obtain ⟨z0,z1⟩:=aJ.out.cells
    have y0:=aJ.out.frozen 0
    have y1:=aJ.out.frozen 1
    have z9:=aJ.out.lt
    go_simp
    obtain ⟨v6,hV⟩:=nmz (World.setCell (World.setCell v5 ⟨(h+1+1+1),0,none⟩ (.bool sg)) ⟨(h+1+1+1),1,none⟩ (.slice Ag ng cg))
    rw [hV]
    have gJ:=hJ (show Below w.heap.size w v6 by rw [←hV]; exact below_box eY.out (by rw [HH.out]; omega) _ _)
    have RE_6:=hJ (show PI v6 se Ae ne ce (S) by rw [←hV]; exact PIo.box (RE_5.out) (aJ.out) rfl rfl (.bool sg) (.slice Ag ng cg))
    have RJ_6:=hJ (show PI v6 sj Aj nj cj (y) by rw [←hV]; exact PIo.box (RJ_5.out) (aJ.out) rfl rfl (.bool sg) (.slice Ag ng cg))
    have RB_6:=hJ (show PI v6 sb Ab nb cb (Q) by rw [←hV]; exact PIo.box (RB_5.out) (aJ.out) rfl rfl (.bool sg) (.slice Ag ng cg))
    have RG_6:=hJ (show PI v6 sg Ag ng cg (x) by rw [←hV]; exact PIo.box (RG_5.out) (aJ.out) rfl rfl (.bool sg) (.slice Ag ng cg))
    have gK:=hJ (show P2 25 v6 h (.bool se) (.slice Ae ne ce) by rw [←hV]; exact eZ.out.far2 (show h≠(h+1+1+1) from (by have:=aB.out; have:=aC.out; omega)) (.bool sg) (.slice Ag ng cg))
    have gL:=hJ (show P2 25 v6 (h+1) (.bool sj) (.slice Aj nj cj) by rw [←hV]; exact fA.out.far2 (show (h+1)≠(h+1+1+1) from (by have:=aB.out; have:=aC.out; omega)) (.bool sg) (.slice Ag ng cg))
    have gM:=hJ (show P2 25 v6 (h+1+1) (.bool sb) (.slice Ab nb cb) by rw [←hV]; exact fB.out.far2 (show (h+1+1)≠(h+1+1+1) from (by have:=aB.out; have:=aC.out; omega)) (.bool sg) (.slice Ag ng cg))
    have fC:=hJ (show P2 25 v6 (g1+1) (.bool sg) (.slice Ag ng cg) by rw [←hV]; exact bV.out.far2 (show (g1+1)≠(h+1+1+1) from (by have:=aB.out; have:=aC.out; omega)) (.bool sg) (.slice Ag ng cg))
    have fD:=hJ (show P2 25 v6 (g2+1) (.bool sj) (.slice Aj nj cj) by rw [←hV]; exact bW.out.far2 (show (g2+1)≠(h+1+1+1) from (by have:=aB.out; have:=aC.out; omega)) (.bool sg) (.slice Ag ng cg))
    have gN:=hJ (show P2 25 v6 (h+1+1+1) (.bool sg) (.slice Ag ng cg) by rw [←hV]; exact aJ.out.all (.bool sg) (.slice Ag ng cg))
    clear hHeld
    refine hK.out _ _ (⟨fC.out.cells.1,fC.out.cells.2,fD.out.cells.1,fD.out.cells.2⟩) (fun hHeld=>?_)
    clear hK K hV z9 z0 z1 y0 y1 eY RE_5 RJ_5 RB_5 RG_5 eZ fA fB bV bW aJ
    try simp only [PT]
    refine wpAnyH_done (by kernel_rfl) ?_ _
    clear hHeld
    go_wp2
    go_roundg (x.natAbs+y.natAbs)
    case measure=>have:=aR.out; have:=aS.out; have:=HG.out; omega
    case rel=>exact ⟨S,y,Q,x,se,sj,sb,sg,Ae,Aj,Ab,Ag,ne,nj,nb,ng,ce,cj,cb,cg,by omega,gK.out,gL.out,gM.out,gN.out,RE_6.out,RJ_6.out,RB_6.out,RG_6.out,bN.out.1,bN.out.2,gJ.out⟩
   refine .cons rfl (fun K hK=>?_) .nil
   ·skip
    obtain ⟨z0,z1⟩:=aZ.out.cells
    go_simp
    clear hHeld
    refine hK.out _ _ (⟨aE.out.cells.1,aE.out.cells.2,aF.out.cells.1,aF.out.cells.2⟩) (fun hHeld=>?_)
    clear hK K z0 z1
    try simp only [PT]
    refine ryy [0] ?_
    refine .cons rfl (fun K hK=>?_) .nil
    obtain ⟨z0,z1⟩:=bA.out.cells
    go_simp
    clear hHeld
    refine hK.out _ _ (⟨aE.out.cells.1,aE.out.cells.2,aF.out.cells.1,aF.out.cells.2⟩) (fun hHeld=>?_)
    clear hK K z0 z1
    try simp only [PT]
    refine ryy [4] ?_
    refine .cons rfl (fun K hK=>?_) .nil
    obtain ⟨z0,z1⟩:=aD.out.cells
    have y0:=aD.out.frozen 0
    have y1:=aD.out.frozen 1
    have z9:=aD.out.lt
    go_simp
    obtain ⟨v9,hV⟩:=nmz (World.setCell (World.setCell v0 ⟨h,0,none⟩ (.bool se)) ⟨h,1,none⟩ (.slice Ae ne ce))
    rw [hV]
    have fE:=hJ (show Below w.heap.size w v9 by rw [←hV]; exact below_box bO.out (by rw [HH.out]; omega) _ _)
    have RE_9:=hJ (show PI v9 se Ae ne ce (S) by rw [←hV]; exact PIo.box (RE_0.out) (aD.out) rfl rfl (.bool se) (.slice Ae ne ce))
    have RJ_9:=hJ (show PI v9 sj Aj nj cj (y) by rw [←hV]; exact PIo.box (RJ_0.out) (aD.out) rfl rfl (.bool se) (.slice Ae ne ce))
    have RB_9:=hJ (show PI v9 sb Ab nb cb (Q) by rw [←hV]; exact PIo.box (RB_0.out) (aD.out) rfl rfl (.bool se) (.slice Ae ne ce))
    have RG_9:=hJ (show PI v9 sg Ag ng cg (x) by rw [←hV]; exact PIo.box (RG_0.out) (aD.out) rfl rfl (.bool se) (.slice Ae ne ce))
    have aK:=hJ (show P2 25 v9 (h+1) (.bool sb) (.slice Ab nb cb) by rw [←hV]; exact aZ.out.far2 (show (h+1)≠h from (by have:=aB.out; have:=aC.out; omega)) (.bool se) (.slice Ae ne ce))
    have fF:=hJ (show P2 25 v9 (h+1+1) (.bool sd) (.slice Ad nd cd) by rw [←hV]; exact bP.out.far2 (show (h+1+1)≠h from (by have:=aB.out; have:=aC.out; omega)) (.bool se) (.slice Ae ne ce))
    have fG:=hJ (show P2 25 v9 (h+1+1+1) (.bool se) (.slice Ae ne ce) by rw [←hV]; exact bA.out.far2 (show (h+1+1+1)≠h from (by have:=aB.out; have:=aC.out; omega)) (.bool se) (.slice Ae ne ce))
    have bX:=hJ (show P2 25 v9 (g1+1) (.bool sg) (.slice Ag ng cg) by rw [←hV]; exact aE.out.far2 (show (g1+1)≠h from (by have:=aB.out; have:=aC.out; omega)) (.bool se) (.slice Ae ne ce))
    have bY:=hJ (show P2 25 v9 (g2+1) (.bool sj) (.slice Aj nj cj) by rw [←hV]; exact aF.out.far2 (show (g2+1)≠h from (by have:=aB.out; have:=aC.out; omega)) (.bool se) (.slice Ae ne ce))
    have fH:=hJ (show P2 25 v9 h (.bool se) (.slice Ae ne ce) by rw [←hV]; exact aD.out.all (.bool se) (.slice Ae ne ce))
    clear hHeld
    refine hK.out _ _ (⟨bX.out.cells.1,bX.out.cells.2,bY.out.cells.1,bY.out.cells.2⟩) (fun hHeld=>?_)
    clear hK K hV z9 z0 z1 y0 y1 bO RE_0 RJ_0 RB_0 RG_0 aZ bP bA aE aF aD
    try simp only [PT]
    refine ryy [5] ?_
    refine .cons rfl (fun K hK=>?_) .nil
    obtain ⟨z0,z1⟩:=aK.out.cells
    have y0:=aK.out.frozen 0
    have y1:=aK.out.frozen 1
    have z9:=aK.out.lt
    go_simp
    obtain ⟨v10,hV⟩:=nmz (World.setCell (World.setCell v9 ⟨(h+1),0,none⟩ (.bool sj)) ⟨(h+1),1,none⟩ (.slice Aj nj cj))
    rw [hV]
    have fI:=hJ (show Below w.heap.size w v10 by rw [←hV]; exact below_box fE.out (by rw [HH.out]; omega) _ _)
    have RE_10:=hJ (show PI v10 se Ae ne ce (S) by rw [←hV]; exact PIo.box (RE_9.out) (aK.out) rfl rfl (.bool sj) (.slice Aj nj cj))
    have RJ_10:=hJ (show PI v10 sj Aj nj cj (y) by rw [←hV]; exact PIo.box (RJ_9.out) (aK.out) rfl rfl (.bool sj) (.slice Aj nj cj))
    have RB_10:=hJ (show PI v10 sb Ab nb cb (Q) by rw [←hV]; exact PIo.box (RB_9.out) (aK.out) rfl rfl (.bool sj) (.slice Aj nj cj))
    have RG_10:=hJ (show PI v10 sg Ag ng cg (x) by rw [←hV]; exact PIo.box (RG_9.out) (aK.out) rfl rfl (.bool sj) (.slice Aj nj cj))
    have fJ:=hJ (show P2 25 v10 h (.bool se) (.slice Ae ne ce) by rw [←hV]; exact fH.out.far2 (show h≠(h+1) from (by have:=aB.out; have:=aC.out; omega)) (.bool sj) (.slice Aj nj cj))
    have aL:=hJ (show P2 25 v10 (h+1+1) (.bool sd) (.slice Ad nd cd) by rw [←hV]; exact fF.out.far2 (show (h+1+1)≠(h+1) from (by have:=aB.out; have:=aC.out; omega)) (.bool sj) (.slice Aj nj cj))
    have fK:=hJ (show P2 25 v10 (h+1+1+1) (.bool se) (.slice Ae ne ce) by rw [←hV]; exact fG.out.far2 (show (h+1+1+1)≠(h+1) from (by have:=aB.out; have:=aC.out; omega)) (.bool sj) (.slice Aj nj cj))
    have bZ:=hJ (show P2 25 v10 (g1+1) (.bool sg) (.slice Ag ng cg) by rw [←hV]; exact bX.out.far2 (show (g1+1)≠(h+1) from (by have:=aB.out; have:=aC.out; omega)) (.bool sj) (.slice Aj nj cj))
    have cA:=hJ (show P2 25 v10 (g2+1) (.bool sj) (.slice Aj nj cj) by rw [←hV]; exact bY.out.far2 (show (g2+1)≠(h+1) from (by have:=aB.out; have:=aC.out; omega)) (.bool sj) (.slice Aj nj cj))
    have fL:=hJ (show P2 25 v10 (h+1) (.bool sj) (.slice Aj nj cj) by rw [←hV]; exact aK.out.all (.bool sj) (.slice Aj nj cj))
    clear hHeld
    refine hK.out _ _ (⟨bZ.out.cells.1,bZ.out.cells.2,cA.out.cells.1,cA.out.cells.2⟩) (fun hHeld=>?_)
    clear hK K hV z9 z0 z1 y0 y1 fE RE_9 RJ_9 RB_9 RG_9 fH fF fG bX bY aK
    try simp only [PT]
    refine ryy [6] ?_
    refine .cons rfl (fun K hK=>?_) .nil
    obtain ⟨z0,z1⟩:=aL.out.cells
    have y0:=aL.out.frozen 0
    have y1:=aL.out.frozen 1
    have z9:=aL.out.lt
    go_simp
    obtain ⟨v11,hV⟩:=nmz (World.setCell (World.setCell v10 ⟨(h+1+1),0,none⟩ (.bool sb)) ⟨(h+1+1),1,none⟩ (.slice Ab nb cb))
    rw [hV]
    have fM:=hJ (show Below w.heap.size w v11 by rw [←hV]; exact below_box fI.out (by rw [HH.out]; omega) _ _)
    have RE_11:=hJ (show PI v11 se Ae ne ce (S) by rw [←hV]; exact PIo.box (RE_10.out) (aL.out) rfl rfl (.bool sb) (.slice Ab nb cb))
    have RJ_11:=hJ (show PI v11 sj Aj nj cj (y) by rw [←hV]; exact PIo.box (RJ_10.out) (aL.out) rfl rfl (.bool sb) (.slice Ab nb cb))
    have RB_11:=hJ (show PI v11 sb Ab nb cb (Q) by rw [←hV]; exact PIo.box (RB_10.out) (aL.out) rfl rfl (.bool sb) (.slice Ab nb cb))
    have RG_11:=hJ (show PI v11 sg Ag ng cg (x) by rw [←hV]; exact PIo.box (RG_10.out) (aL.out) rfl rfl (.bool sb) (.slice Ab nb cb))
    have fN:=hJ (show P2 25 v11 h (.bool se) (.slice Ae ne ce) by rw [←hV]; exact fJ.out.far2 (show h≠(h+1+1) from (by have:=aB.out; have:=aC.out; omega)) (.bool sb) (.slice Ab nb cb))
    have fO:=hJ (show P2 25 v11 (h+1) (.bool sj) (.slice Aj nj cj) by rw [←hV]; exact fL.out.far2 (show (h+1)≠(h+1+1) from (by have:=aB.out; have:=aC.out; omega)) (.bool sb) (.slice Ab nb cb))
    have aM:=hJ (show P2 25 v11 (h+1+1+1) (.bool se) (.slice Ae ne ce) by rw [←hV]; exact fK.out.far2 (show (h+1+1+1)≠(h+1+1) from (by have:=aB.out; have:=aC.out; omega)) (.bool sb) (.slice Ab nb cb))
    have cB:=hJ (show P2 25 v11 (g1+1) (.bool sg) (.slice Ag ng cg) by rw [←hV]; exact bZ.out.far2 (show (g1+1)≠(h+1+1) from (by have:=aB.out; have:=aC.out; omega)) (.bool sb) (.slice Ab nb cb))
    have cC:=hJ (show P2 25 v11 (g2+1) (.bool sj) (.slice Aj nj cj) by rw [←hV]; exact cA.out.far2 (show (g2+1)≠(h+1+1) from (by have:=aB.out; have:=aC.out; omega)) (.bool sb) (.slice Ab nb cb))
    have fP:=hJ (show P2 25 v11 (h+1+1) (.bool sb) (.slice Ab nb cb) by rw [←hV]; exact aL.out.all (.bool sb) (.slice Ab nb cb))
    clear hHeld
    refine hK.out _ _ (⟨cB.out.cells.1,cB.out.cells.2,cC.out.cells.1,cC.out.cells.2⟩) (fun hHeld=>?_)
    clear hK K hV z9 z0 z1 y0 y1 fI RE_10 RJ_10 RB_10 RG_10 fJ fL fK bZ cA aL
    try simp only [PT]
    refine ryy [7] ?_
    refine .cons rfl (fun K hK=>?_) .nil
    obtain ⟨z0,z1⟩:=aM.out.cells
    have y0:=aM.out.frozen 0
    have y1:=aM.out.frozen 1
    have z9:=aM.out.lt
    go_simp
    obtain ⟨v12,hV⟩:=nmz (World.setCell (World.setCell v11 ⟨(h+1+1+1),0,none⟩ (.bool sg)) ⟨(h+1+1+1),1,none⟩ (.slice Ag ng cg))
    rw [hV]
    have gO:=hJ (show Below w.heap.size w v12 by rw [←hV]; exact below_box fM.out (by rw [HH.out]; omega) _ _)
    have RE_12:=hJ (show PI v12 se Ae ne ce (S) by rw [←hV]; exact PIo.box (RE_11.out) (aM.out) rfl rfl (.bool sg) (.slice Ag ng cg))
    have RJ_12:=hJ (show PI v12 sj Aj nj cj (y) by rw [←hV]; exact PIo.box (RJ_11.out) (aM.out) rfl rfl (.bool sg) (.slice Ag ng cg))
    have RB_12:=hJ (show PI v12 sb Ab nb cb (Q) by rw [←hV]; exact PIo.box (RB_11.out) (aM.out) rfl rfl (.bool sg) (.slice Ag ng cg))
    have RG_12:=hJ (show PI v12 sg Ag ng cg (x) by rw [←hV]; exact PIo.box (RG_11.out) (aM.out) rfl rfl (.bool sg) (.slice Ag ng cg))
    have gP:=hJ (show P2 25 v12 h (.bool se) (.slice Ae ne ce) by rw [←hV]; exact fN.out.far2 (show h≠(h+1+1+1) from (by have:=aB.out; have:=aC.out; omega)) (.bool sg) (.slice Ag ng cg))
    have gQ:=hJ (show P2 25 v12 (h+1) (.bool sj) (.slice Aj nj cj) by rw [←hV]; exact fO.out.far2 (show (h+1)≠(h+1+1+1) from (by have:=aB.out; have:=aC.out; omega)) (.bool sg) (.slice Ag ng cg))
    have gR:=hJ (show P2 25 v12 (h+1+1) (.bool sb) (.slice Ab nb cb) by rw [←hV]; exact fP.out.far2 (show (h+1+1)≠(h+1+1+1) from (by have:=aB.out; have:=aC.out; omega)) (.bool sg) (.slice Ag ng cg))
    have fQ:=hJ (show P2 25 v12 (g1+1) (.bool sg) (.slice Ag ng cg) by rw [←hV]; exact cB.out.far2 (show (g1+1)≠(h+1+1+1) from (by have:=aB.out; have:=aC.out; omega)) (.bool sg) (.slice Ag ng cg))
    have fR:=hJ (show P2 25 v12 (g2+1) (.bool sj) (.slice Aj nj cj) by rw [←hV]; exact cC.out.far2 (show (g2+1)≠(h+1+1+1) from (by have:=aB.out; have:=aC.out; omega)) (.bool sg) (.slice Ag ng cg))
    have gS:=hJ (show P2 25 v12 (h+1+1+1) (.bool sg) (.slice Ag ng cg) by rw [←hV]; exact aM.out.all (.bool sg) (.slice Ag ng cg))
    clear hHeld
    refine hK.out _ _ (⟨fQ.out.cells.1,fQ.out.cells.2,fR.out.cells.1,fR.out.cells.2⟩) (fun hHeld=>?_)
    clear hK K hV z9 z0 z1 y0 y1 fM RE_11 RJ_11 RB_11 RG_11 fN fO fP cB cC aM
    try simp only [PT]
    refine wpAnyH_done (by kernel_rfl) ?_ _
    clear hHeld
    go_wp2
    go_roundg (x.natAbs+y.natAbs)
    case measure=>have:=aR.out; have:=aS.out; have:=HG.out; omega
    case rel=>exact ⟨S,y,Q,x,se,sj,sb,sg,Ae,Aj,Ab,Ag,ne,nj,nb,ng,ce,cj,cb,cg,by omega,gP.out,gQ.out,gR.out,gS.out,RE_12.out,RJ_12.out,RB_12.out,RG_12.out,bN.out.1,bN.out.2,gO.out⟩
  ·have bD:=hJ (aX.out hu)
   have hub:(u == 0)=false:=by simp [hu]
   clear hu aN aX
   go_wp2
   go_ret
   exact ⟨by rw [←bD.out]; rfl,cK.out⟩
theorem dn_cmp {p q r s:Int} (hq:0 < q) (hs:0 < s):(cmpI (dn q) (dn s)=0→cmpI p r=cmpI (p*s) (r*q))∧True:=by
 refine ⟨fun h=>?_,trivial⟩
 have he:dn q=dn s:=by
  rcases cmpI_cases (dn q) (dn s) with ⟨_,h1⟩ | ⟨h1,_⟩ | ⟨_,h1⟩
  ·omega
  ·exact h1
  omega
 have:q=s:=by
  unfold dn at he
  split at he <;> split at he <;> omega
 subst this
 exact (cmpI_mul hq).symm
theorem two_codes (x y:Int) (h:feV [outC x,outC y]=0):outV x=x∧outV y=y:=by
 rcases outVC x with ⟨_,h1,h2⟩ | ⟨_,h1,h2⟩ <;> rcases outVC y with ⟨_,h3,h4⟩ | ⟨_,h3,h4⟩
 ·exact ⟨h1,h3⟩
 all_goals
  rw [h2,h4] at h
  simp [feV] at h
theorem fcompare_any (p q r s:Int) (sa sb sd se:Bool) (Aa Ab Ad Ae:Option Addr) (na ca nb cb nd cd ne ce:Nat) (w:World) (hx:PF w sa Aa na ca sb Ab nb cb p q) (hy:PF w sd Ad nd cd se Ae ne ce r s) (hq:0 < q) (hs:0 < s) (hlp:p.natAbs < lim) (hlq:q.natAbs < lim) (hlr:r.natAbs < lim) (hls:s.natAbs < lim) :
  Calls Tryz.prog 38 #[.agg #[.bool sa,.slice Aa na ca,.bool sb,.slice Ab nb cb],.agg #[.bool sd,.slice Ad nd cd,.bool se,.slice Ae ne ce]] w fun e w'=>e=.returned (.int .i64 (cmpI (p*s) (r*q)))∧Below w.heap.size w w':=by
 have aE:=hJ (And.intro hq (And.intro hs (And.intro hlp (And.intro hlq (And.intro hlr hls)))))
 obtain ⟨W,hW⟩:∃ W,(w.alloc (.cells #[.bool sa,.slice Aa na ca,.bool sb,.slice Ab nb cb] 27)).alloc (.cells #[.bool sd,.slice Ad nd cd,.bool se,.slice Ae ne ce] 27)=W:=⟨_,rfl⟩
 have HK:=hJ (show Below w.heap.size w W by rw [←hW]; exact ((Below.refl _ w).alloc (Nat.le_refl _) _).alloc (by simp) _)
 have bU:=hJ (show P4 27 W w.heap.size (.bool sa) (.slice Aa na ca) (.bool sb) (.slice Ab nb cb) by rw [←hW]; exact (P4.lit w _ _ _ _ _).new ((Below.refl _ _).alloc (Nat.le_refl _) _))
 have bV:=hJ (show P4 27 W (w.heap.size+1) (.bool sd) (.slice Ad nd cd) (.bool se) (.slice Ae ne ce) by
  rw [←hW]
  have h0:=P4.lit (w.alloc (.cells #[.bool sa,.slice Aa na ca,.bool sb,.slice Ab nb cb] 27)) 27 (.bool sd) (.slice Ad nd cd) (.bool se) (.slice Ae ne ce)
  rw [World.size_alloc] at h0
  exact h0)
 have cG:=hJ (hx.new HK.out)
 have cH:=hJ (hy.new HK.out)
 have hna:na≤512:=plim hx.1 hlp
 have hnb:nb≤512:=plim hx.2 (dn_lim hlq)
 have hnd:nd≤512:=plim hy.1 hlr
 have hne:ne≤512:=plim hy.2 (dn_lim hls)
 have cI:=hJ (dn_cmp (p:=p) (r:=r) hq hs)
 obtain ⟨h,hh⟩:∃ h,w.heap.size=h:=⟨_,rfl⟩
 rw [hh] at bU bV
 clear hx hy hq hs hlp hlq hlr hls
 go_enter Tryz.func38,Tryz.ntmps38
 obtain ⟨cla0_1,cla1_1,cla2_1,cla3_1⟩:=bU.out.cells
 obtain ⟨clb0_1,clb1_1,clb2_1,clb3_1⟩:=bV.out.cells
 go_wp2_with fail
 refine (pcompare_any (dn q) (dn s) sb se Ab Ae nb cb ne ce W cG.out.2 cH.out.2 (by omega) (by omega)).mono ?_
 obtain ⟨u,hu⟩:∃ u,cmpI (dn q) (dn s)=u:=⟨_,rfl⟩
 rw [hu] at cI ⊢
 clear hu
 rintro e w1 ⟨rfl,hb1⟩
 have aZ:=hJ hb1
 clear hb1
 have aQ:=hJ (bU.out.new aZ.out)
 have bW:=hJ (cG.out.new aZ.out)
 have aR:=hJ (bV.out.new aZ.out)
 have bX:=hJ (cH.out.new aZ.out)
 have cJ:=hJ (bt HK.out aZ.out)
 clear bU cG bV cH HK hW hh cla0_1 cla1_1 cla2_1 cla3_1 clb0_1 clb1_1 clb2_1 clb3_1 aZ
 by_cases hu:u=0
 ·have gF:=hJ (cI.out.1 hu)
  subst hu
  obtain ⟨cla0_2,cla1_2,cla2_2,cla3_2⟩:=aQ.out.cells
  obtain ⟨clb0_2,clb1_2,clb2_2,clb3_2⟩:=aR.out.cells
  go_wp2_with fail
  refine (pcompare_any p r sa sd Aa Ad na ca nd cd w1 bW.out.1 bX.out.1 (by omega) (by omega)).mono ?_
  rw [gF.out]
  rintro e w2 ⟨rfl,hb2⟩
  have bM:=hJ (bt cJ.out hb2)
  clear hb2
  go_wp2
  go_ret
  exact ⟨rfl,bM.out⟩
 ·have hub:(u == 0)=false:=by simp [hu]
  clear hu cI
  obtain ⟨cla0_3,cla1_3,cla2_3,cla3_3⟩:=aQ.out.cells
  obtain ⟨clb0_3,clb1_3,clb2_3,clb3_3⟩:=aR.out.cells
  go_wp2_with fail
  clear hub
  clear cla0_3 cla1_3 cla2_3 cla3_3 clb0_3 clb1_3 clb2_3 clb3_3
  have aB:Hid (∀ w',Below w1.heap.size w1 w'→(fun w':World=>w'.cell? ⟨h,0,none⟩=some (.bool sa)∧w'.cell? ⟨h,1,none⟩=some (.slice Aa na ca)∧w'.cell? ⟨h,2,none⟩=some (.bool sb)∧w'.cell? ⟨h,3,none⟩=some (.slice Ab nb cb)∧w'.cell? ⟨(h+1),0,none⟩=some (.bool sd)∧w'.cell? ⟨(h+1),1,none⟩=some (.slice Ad nd cd)∧w'.cell? ⟨(h+1),2,none⟩=some (.bool se)∧w'.cell? ⟨(h+1),3,none⟩=some (.slice Ae ne ce)∧Below w1.heap.size w1 w') w'):=hJ (fun w' hb=>⟨(aQ.out.new hb).cells.1,(aQ.out.new hb).cells.2.1,(aQ.out.new hb).cells.2.2.1,(aQ.out.new hb).cells.2.2.2,(aR.out.new hb).cells.1,(aR.out.new hb).cells.2.1,(aR.out.new hb).cells.2.2.1,(aR.out.new hb).cells.2.2.2,hb⟩)
  have dK:=hJ (Below.refl w1.heap.size w1)
  go_upto_region 3 with fail
  go_cut [5,6] (fun tp tq wx=>∃ (G H:Nat) (s4a:Bool) (A4a:Option Addr) (n4a c4a:Nat) (s4b:Bool) (A4b:Option Addr) (n4b c4b:Nat),tp=.pointer (some ⟨G,0,none⟩)∧tq=.pointer (some ⟨H,0,none⟩)∧P2 25 wx G (.bool s4a) (.slice A4a n4a c4a)∧P2 25 wx H (.bool s4b) (.slice A4b n4b c4b)∧PI wx s4a A4a n4a c4a (q)∧PI wx s4b A4b n4b c4b (s)∧Below w1.heap.size w1 wx)
  case first =>
   have gG:=dK
   obtain ⟨v0,hv0⟩:=nmz (World.drew w1)
   have aK:=hJ (show Below w1.heap.size w1 v0 by rw [←hv0]; exact (Below.refl _ _).drew)
   have a_0:=hJ ((bW.out).new aK.out)
   have b_0:=hJ ((bX.out).new aK.out)
   refine wp_region_held_drew (S:=(fun w':World=>w'.cell? ⟨h,0,none⟩=some (.bool sa)∧w'.cell? ⟨h,1,none⟩=some (.slice Aa na ca)∧w'.cell? ⟨h,2,none⟩=some (.bool sb)∧w'.cell? ⟨h,3,none⟩=some (.slice Ab nb cb)∧w'.cell? ⟨(h+1),0,none⟩=some (.bool sd)∧w'.cell? ⟨(h+1),1,none⟩=some (.slice Ad nd cd)∧w'.cell? ⟨(h+1),2,none⟩=some (.bool se)∧w'.cell? ⟨(h+1),3,none⟩=some (.slice Ae ne ce)∧Below w1.heap.size w1 w')) (by kernel_rfl) ?_ (fun hHeld=>?_)
   ·rw [hv0]
    exact aB.out _ aK.out
   rw [hv0] at hHeld ⊢
   clear hv0 gG
   refine tq 0 ?_
   refine tq 2 ?_
   try simp only [PT]
   refine wpAnyH_name (fun F hF a0 ha0 L0 hL0=>?_)
   have bA:∀ (s4a:Bool) (A4a:Option Addr) (n4a:Nat) (c4a:Nat) (s4b:Bool) (A4b:Option Addr) (n4b:Nat) (c4b:Nat) (gx:Nat) (gy:Nat) (v:World),Hid (Below w1.heap.size w1 v)→Hid (PF v sa Aa na ca sb Ab nb cb p q)→Hid (PF v sd Ad nd cd se Ae ne ce r s)→Hid (PI v s4a A4a n4a c4a (q))→Hid (PI v s4b A4b n4b c4b (s))→Hid (P2 25 v gx (.bool false) (.slice none 0 0))→Hid (w1.heap.size≤gx)→Hid (P2 25 v gy (.bool false) (.slice none 0 0))→Hid (w1.heap.size≤gy)→Hid (gx≠gy)→F 2 (Array.setIfInBounds (Array.setIfInBounds (Array.setIfInBounds (Array.setIfInBounds L0 1 true) 3 true) 4 true) 5 true) (Act.put (Act.put (Act.put (Act.put a0 (some 23) (.agg #[.bool s4a,.slice A4a n4a c4a])) (some 25) (.agg #[.bool s4b,.slice A4b n4b c4b])) (some 5) (.pointer (some ⟨gx,0,none⟩))) (some 6) (.pointer (some ⟨gy,0,none⟩))) v:=by
    intro s4a A4a n4a c4a s4b A4b n4b c4b gx gy v aA a_j b_j N0_j N1_j aC aG aD aH bB
    subst hF ha0 hL0
    simp only [PT] at  ⊢
    have hHeld:=aB.out _ aA.out
    refine ryy [6] ?_
    refine .cons rfl (fun K hK=>?_) .nil
    obtain ⟨z0,z1⟩:=aC.out.cells
    have y0:=aC.out.frozen 0
    have y1:=aC.out.frozen 1
    have z9:=aC.out.lt
    go_simp
    obtain ⟨v1,hV⟩:=nmz (World.setCell (World.setCell v ⟨gx,0,none⟩ (.bool s4a)) ⟨gx,1,none⟩ (.slice A4a n4a c4a))
    rw [hV]
    have cK:=hJ (show Below w1.heap.size w1 v1 by rw [←hV]; exact below_box aA.out (aG.out) _ _)
    have a_1:=hJ (show PF v1 sa Aa na ca sb Ab nb cb p q by rw [←hV]; exact PF.box (a_j.out) (aC.out) (.bool s4a) (.slice A4a n4a c4a))
    have b_1:=hJ (show PF v1 sd Ad nd cd se Ae ne ce r s by rw [←hV]; exact PF.box (b_j.out) (aC.out) (.bool s4a) (.slice A4a n4a c4a))
    have N0_1:=hJ (show PI v1 s4a A4a n4a c4a (q) by rw [←hV]; exact PIo.box (N0_j.out) (aC.out) rfl rfl (.bool s4a) (.slice A4a n4a c4a))
    have N1_1:=hJ (show PI v1 s4b A4b n4b c4b (s) by rw [←hV]; exact PIo.box (N1_j.out) (aC.out) rfl rfl (.bool s4a) (.slice A4a n4a c4a))
    have aN:=hJ (show P2 25 v1 gy (.bool false) (.slice none 0 0) by rw [←hV]; exact aD.out.far2 (show gy≠gx from bB.out.symm) (.bool s4a) (.slice A4a n4a c4a))
    have dL:=hJ (show P2 25 v1 gx (.bool s4a) (.slice A4a n4a c4a) by rw [←hV]; exact aC.out.all (.bool s4a) (.slice A4a n4a c4a))
    clear hHeld
    refine hK.out _ _ (aB.out _ cK.out) (fun hHeld=>?_)
    clear hK K hV z9 z0 z1 y0 y1 aA a_j b_j N0_j N1_j aD aC
    try simp only [PT]
    refine ryy [7] ?_
    refine .cons rfl (fun K hK=>?_) .nil
    obtain ⟨z0,z1⟩:=aN.out.cells
    have y0:=aN.out.frozen 0
    have y1:=aN.out.frozen 1
    have z9:=aN.out.lt
    go_simp
    obtain ⟨v2,hV⟩:=nmz (World.setCell (World.setCell v1 ⟨gy,0,none⟩ (.bool s4b)) ⟨gy,1,none⟩ (.slice A4b n4b c4b))
    rw [hV]
    have dM:=hJ (show Below w1.heap.size w1 v2 by rw [←hV]; exact below_box cK.out (aH.out) _ _)
    have a_2:=hJ (show PF v2 sa Aa na ca sb Ab nb cb p q by rw [←hV]; exact PF.box (a_1.out) (aN.out) (.bool s4b) (.slice A4b n4b c4b))
    have b_2:=hJ (show PF v2 sd Ad nd cd se Ae ne ce r s by rw [←hV]; exact PF.box (b_1.out) (aN.out) (.bool s4b) (.slice A4b n4b c4b))
    have N0_2:=hJ (show PI v2 s4a A4a n4a c4a (q) by rw [←hV]; exact PIo.box (N0_1.out) (aN.out) rfl rfl (.bool s4b) (.slice A4b n4b c4b))
    have N1_2:=hJ (show PI v2 s4b A4b n4b c4b (s) by rw [←hV]; exact PIo.box (N1_1.out) (aN.out) rfl rfl (.bool s4b) (.slice A4b n4b c4b))
    have gH:=hJ (show P2 25 v2 gx (.bool s4a) (.slice A4a n4a c4a) by rw [←hV]; exact dL.out.far2 (show gx≠gy from bB.out) (.bool s4b) (.slice A4b n4b c4b))
    have gI:=hJ (show P2 25 v2 gy (.bool s4b) (.slice A4b n4b c4b) by rw [←hV]; exact aN.out.all (.bool s4b) (.slice A4b n4b c4b))
    clear hHeld
    refine hK.out _ _ (aB.out _ dM.out) (fun hHeld=>?_)
    clear hK K hV z9 z0 z1 y0 y1 cK a_1 b_1 N0_1 N1_1 dL aN
    try simp only [PT]
    refine wpAnyH_done (by kernel_rfl) ?_ _
    clear hHeld
    go_wp2_with fail
    go_meet
    exact ⟨gx,gy,s4a,A4a,n4a,c4a,s4b,A4b,n4b,c4b,rfl,rfl,gH.out,gI.out,N0_2.out,N1_2.out,dM.out⟩
   have bY:∀ (s4a:Bool) (A4a:Option Addr) (n4a:Nat) (c4a:Nat) (s4b:Bool) (A4b:Option Addr) (n4b:Nat) (c4b:Nat) (gx:Nat) (v:World),Hid (Below w1.heap.size w1 v)→Hid (PF v sa Aa na ca sb Ab nb cb p q)→Hid (PF v sd Ad nd cd se Ae ne ce r s)→Hid (PI v s4a A4a n4a c4a (q))→Hid (PI v s4b A4b n4b c4b (s))→Hid (P2 25 v gx (.bool false) (.slice none 0 0))→Hid (w1.heap.size≤gx)→F 3 (Array.setIfInBounds (Array.setIfInBounds (Array.setIfInBounds L0 1 true) 3 true) 4 true) (Act.put (Act.put (Act.put a0 (some 23) (.agg #[.bool s4a,.slice A4a n4a c4a])) (some 25) (.agg #[.bool s4b,.slice A4b n4b c4b])) (some 5) (.pointer (some ⟨gx,0,none⟩))) v:=by
    intro s4a A4a n4a c4a s4b A4b n4b c4b gx v aA a_j b_j N0_j N1_j aC aG
    subst hF ha0 hL0
    simp only [PT] at bA ⊢
    have hHeld:=aB.out _ aA.out
    refine ryy [5] ?_
    refine .cons rfl (fun K hK=>?_) .nil
    go_simp
    have aS:=hJ ((Below.refl v.heap.size v).alloc (Nat.le_refl _) (.cells #[.bool false,.slice none 0 0] 25))
    have cL:=hJ (P2.lit v 25 (.bool false) (.slice none 0 0))
    obtain ⟨v3,hV⟩:=nmz (World.alloc v (.cells #[.bool false,.slice none 0 0] 25))
    obtain ⟨gy,hg⟩:=nmz (v.heap.size)
    rw [hV] at aS cL  ⊢
    rw [hg] at cL  ⊢
    have aL:=hJ (show w1.heap.size≤gy by rw [←hg]; exact aA.out.size)
    have bN:=hJ (show gx≠gy by have:=aC.out.lt; rw [hg] at this; omega)
    have dN:=hJ (bt aA.out aS.out)
    have a_3:=hJ ((a_j.out).new aS.out)
    have b_3:=hJ ((b_j.out).new aS.out)
    have N0_3:=hJ (PIo.new N0_j.out aS.out)
    have N1_3:=hJ (PIo.new N1_j.out aS.out)
    have gJ:=hJ (aC.out.new aS.out)
    clear hHeld
    refine hK.out _ _ (aB.out _ dN.out) (fun hHeld=>?_)
    clear hK K hV hg aS aA a_j b_j N0_j N1_j aC
    try simp only [PT]
    exact wpAnyH_cast (by kernel_rfl) (bA s4a A4a n4a c4a s4b A4b n4b c4b gx gy v3 dN a_3 b_3 N0_3 N1_3 gJ (hJ (aG.out)) cL (hJ (aL.out)) (hJ (bN.out)))
   have bZ:∀ (s4a:Bool) (A4a:Option Addr) (n4a:Nat) (c4a:Nat) (s4b:Bool) (A4b:Option Addr) (n4b:Nat) (c4b:Nat) (gy:Nat) (v:World),Hid (Below w1.heap.size w1 v)→Hid (PF v sa Aa na ca sb Ab nb cb p q)→Hid (PF v sd Ad nd cd se Ae ne ce r s)→Hid (PI v s4a A4a n4a c4a (q))→Hid (PI v s4b A4b n4b c4b (s))→Hid (P2 25 v gy (.bool false) (.slice none 0 0))→Hid (w1.heap.size≤gy)→F 3 (Array.setIfInBounds (Array.setIfInBounds (Array.setIfInBounds L0 1 true) 3 true) 5 true) (Act.put (Act.put (Act.put a0 (some 23) (.agg #[.bool s4a,.slice A4a n4a c4a])) (some 25) (.agg #[.bool s4b,.slice A4b n4b c4b])) (some 6) (.pointer (some ⟨gy,0,none⟩))) v:=by
    intro s4a A4a n4a c4a s4b A4b n4b c4b gy v aA a_j b_j N0_j N1_j aD aH
    subst hF ha0 hL0
    simp only [PT] at bA ⊢
    have hHeld:=aB.out _ aA.out
    refine ryy [4] ?_
    refine .cons rfl (fun K hK=>?_) .nil
    go_simp
    have aT:=hJ ((Below.refl v.heap.size v).alloc (Nat.le_refl _) (.cells #[.bool false,.slice none 0 0] 25))
    have cM:=hJ (P2.lit v 25 (.bool false) (.slice none 0 0))
    obtain ⟨v4,hV⟩:=nmz (World.alloc v (.cells #[.bool false,.slice none 0 0] 25))
    obtain ⟨gx,hg⟩:=nmz (v.heap.size)
    rw [hV] at aT cM  ⊢
    rw [hg] at cM  ⊢
    have aM:=hJ (show w1.heap.size≤gx by rw [←hg]; exact aA.out.size)
    have bO:=hJ (show gy≠gx by have:=aD.out.lt; rw [hg] at this; omega)
    have dO:=hJ (bt aA.out aT.out)
    have a_4:=hJ ((a_j.out).new aT.out)
    have b_4:=hJ ((b_j.out).new aT.out)
    have N0_4:=hJ (PIo.new N0_j.out aT.out)
    have N1_4:=hJ (PIo.new N1_j.out aT.out)
    have gK:=hJ (aD.out.new aT.out)
    clear hHeld
    refine hK.out _ _ (aB.out _ dO.out) (fun hHeld=>?_)
    clear hK K hV hg aT aA a_j b_j N0_j N1_j aD
    try simp only [PT]
    exact wpAnyH_cast (by kernel_rfl) (bA s4a A4a n4a c4a s4b A4b n4b c4b gx gy v4 dO a_4 b_4 N0_4 N1_4 cM (hJ (aM.out)) gK (hJ (aH.out)) (hJ (bO.out.symm)))
   have bC:∀ (s4a:Bool) (A4a:Option Addr) (n4a:Nat) (c4a:Nat) (gx:Nat) (gy:Nat) (v:World),Hid (Below w1.heap.size w1 v)→Hid (PF v sa Aa na ca sb Ab nb cb p q)→Hid (PF v sd Ad nd cd se Ae ne ce r s)→Hid (PI v s4a A4a n4a c4a (q))→Hid (P2 25 v gx (.bool false) (.slice none 0 0))→Hid (w1.heap.size≤gx)→Hid (P2 25 v gy (.bool false) (.slice none 0 0))→Hid (w1.heap.size≤gy)→Hid (gx≠gy)→F 3 (Array.setIfInBounds (Array.setIfInBounds (Array.setIfInBounds L0 1 true) 4 true) 5 true) (Act.put (Act.put (Act.put a0 (some 23) (.agg #[.bool s4a,.slice A4a n4a c4a])) (some 5) (.pointer (some ⟨gx,0,none⟩))) (some 6) (.pointer (some ⟨gy,0,none⟩))) v:=by
    intro s4a A4a n4a c4a gx gy v aA a_j b_j N0_j aC aG aD aH bB
    subst hF ha0 hL0
    simp only [PT] at bA ⊢
    have hHeld:=aB.out _ aA.out
    refine ryy [3] ?_
    refine .cons rfl (fun K hK=>?_) .nil
    go_simp
    go_at_call_of 36 (#[Value.agg #[.bool sd,.slice Ad nd cd,.bool se,.slice Ae ne ce]])
    refine (den_any r s sd se Ad Ae nd cd ne ce v (b_j.out) (by omega) aE.out.2.1).mono ?_
    rintro e v5 ⟨s4b,A4b,n4b,c4b,rfl,hr,hk⟩
    have N1_5:=hJ (hr)
    have aU:=hJ hk
    go_wp2_with fail
    have dP:=hJ (bt aA.out aU.out)
    have a_5:=hJ ((a_j.out).new aU.out)
    have b_5:=hJ ((b_j.out).new aU.out)
    have N0_5:=hJ (PIo.new N0_j.out aU.out)
    have gL:=hJ (aC.out.new aU.out)
    have gM:=hJ (aD.out.new aU.out)
    clear hHeld
    refine hK.out _ _ (aB.out _ dP.out) (fun hHeld=>?_)
    clear hK K hk aU hr aA a_j b_j N0_j aC aD
    try simp only [PT]
    exact wpAnyH_cast (by kernel_rfl) (bA s4a A4a n4a c4a s4b A4b n4b c4b gx gy v5 dP a_5 b_5 N0_5 N1_5 gL (hJ (aG.out)) gM (hJ (aH.out)) (hJ (bB.out)))
   have dQ:∀ (s4a:Bool) (A4a:Option Addr) (n4a:Nat) (c4a:Nat) (s4b:Bool) (A4b:Option Addr) (n4b:Nat) (c4b:Nat) (v:World),Hid (Below w1.heap.size w1 v)→Hid (PF v sa Aa na ca sb Ab nb cb p q)→Hid (PF v sd Ad nd cd se Ae ne ce r s)→Hid (PI v s4a A4a n4a c4a (q))→Hid (PI v s4b A4b n4b c4b (s))→F 4 (Array.setIfInBounds (Array.setIfInBounds L0 1 true) 3 true) (Act.put (Act.put a0 (some 23) (.agg #[.bool s4a,.slice A4a n4a c4a])) (some 25) (.agg #[.bool s4b,.slice A4b n4b c4b])) v:=by
    intro s4a A4a n4a c4a s4b A4b n4b c4b v aA a_j b_j N0_j N1_j
    subst hF ha0 hL0
    simp only [PT] at bY bZ ⊢
    have hHeld:=aB.out _ aA.out
    refine ryy [4,5] ?_
    refine .cons rfl (fun K hK=>?_) ?_
    go_simp
    have aV:=hJ ((Below.refl v.heap.size v).alloc (Nat.le_refl _) (.cells #[.bool false,.slice none 0 0] 25))
    have cN:=hJ (P2.lit v 25 (.bool false) (.slice none 0 0))
    obtain ⟨v6,hV⟩:=nmz (World.alloc v (.cells #[.bool false,.slice none 0 0] 25))
    obtain ⟨gx,hg⟩:=nmz (v.heap.size)
    rw [hV] at aV cN  ⊢
    rw [hg] at cN  ⊢
    have aM:=hJ (show w1.heap.size≤gx by rw [←hg]; exact aA.out.size)
    have dR:=hJ (bt aA.out aV.out)
    have a_6:=hJ ((a_j.out).new aV.out)
    have b_6:=hJ ((b_j.out).new aV.out)
    have N0_6:=hJ (PIo.new N0_j.out aV.out)
    have N1_6:=hJ (PIo.new N1_j.out aV.out)
    clear hHeld
    refine hK.out _ _ (aB.out _ dR.out) (fun hHeld=>?_)
    clear hK K hV hg aV aA a_j b_j N0_j N1_j
    try simp only [PT]
    exact wpAnyH_cast (by kernel_rfl) (bY s4a A4a n4a c4a s4b A4b n4b c4b gx v6 dR a_6 b_6 N0_6 N1_6 cN (hJ (aM.out)))
    refine .cons rfl (fun K hK=>?_) .nil
    go_simp
    have aW:=hJ ((Below.refl v.heap.size v).alloc (Nat.le_refl _) (.cells #[.bool false,.slice none 0 0] 25))
    have cO:=hJ (P2.lit v 25 (.bool false) (.slice none 0 0))
    obtain ⟨v7,hV⟩:=nmz (World.alloc v (.cells #[.bool false,.slice none 0 0] 25))
    obtain ⟨gy,hg⟩:=nmz (v.heap.size)
    rw [hV] at aW cO  ⊢
    rw [hg] at cO  ⊢
    have aL:=hJ (show w1.heap.size≤gy by rw [←hg]; exact aA.out.size)
    have dS:=hJ (bt aA.out aW.out)
    have a_7:=hJ ((a_j.out).new aW.out)
    have b_7:=hJ ((b_j.out).new aW.out)
    have N0_7:=hJ (PIo.new N0_j.out aW.out)
    have N1_7:=hJ (PIo.new N1_j.out aW.out)
    clear hHeld
    refine hK.out _ _ (aB.out _ dS.out) (fun hHeld=>?_)
    clear hK K hV hg aW aA a_j b_j N0_j N1_j
    try simp only [PT]
    exact wpAnyH_cast (by kernel_rfl) (bZ s4a A4a n4a c4a s4b A4b n4b c4b gy v7 dS a_7 b_7 N0_7 N1_7 cO (hJ (aL.out)))
   have cA:∀ (s4a:Bool) (A4a:Option Addr) (n4a:Nat) (c4a:Nat) (gx:Nat) (v:World),Hid (Below w1.heap.size w1 v)→Hid (PF v sa Aa na ca sb Ab nb cb p q)→Hid (PF v sd Ad nd cd se Ae ne ce r s)→Hid (PI v s4a A4a n4a c4a (q))→Hid (P2 25 v gx (.bool false) (.slice none 0 0))→Hid (w1.heap.size≤gx)→F 4 (Array.setIfInBounds (Array.setIfInBounds L0 1 true) 4 true) (Act.put (Act.put a0 (some 23) (.agg #[.bool s4a,.slice A4a n4a c4a])) (some 5) (.pointer (some ⟨gx,0,none⟩))) v:=by
    intro s4a A4a n4a c4a gx v aA a_j b_j N0_j aC aG
    subst hF ha0 hL0
    simp only [PT] at bY bC ⊢
    have hHeld:=aB.out _ aA.out
    refine ryy [3,5] ?_
    refine .cons rfl (fun K hK=>?_) ?_
    go_simp
    go_at_call_of 36 (#[Value.agg #[.bool sd,.slice Ad nd cd,.bool se,.slice Ae ne ce]])
    refine (den_any r s sd se Ad Ae nd cd ne ce v (b_j.out) (by omega) aE.out.2.1).mono ?_
    rintro e v8 ⟨s4b,A4b,n4b,c4b,rfl,hr,hk⟩
    have N1_8:=hJ (hr)
    have bD:=hJ hk
    go_wp2_with fail
    have dT:=hJ (bt aA.out bD.out)
    have a_8:=hJ ((a_j.out).new bD.out)
    have b_8:=hJ ((b_j.out).new bD.out)
    have N0_8:=hJ (PIo.new N0_j.out bD.out)
    have gN:=hJ (aC.out.new bD.out)
    clear hHeld
    refine hK.out _ _ (aB.out _ dT.out) (fun hHeld=>?_)
    clear hK K hk bD hr aA a_j b_j N0_j aC
    try simp only [PT]
    exact wpAnyH_cast (by kernel_rfl) (bY s4a A4a n4a c4a s4b A4b n4b c4b gx v8 dT a_8 b_8 N0_8 N1_8 gN (hJ (aG.out)))
    refine .cons rfl (fun K hK=>?_) .nil
    go_simp
    have aX:=hJ ((Below.refl v.heap.size v).alloc (Nat.le_refl _) (.cells #[.bool false,.slice none 0 0] 25))
    have cP:=hJ (P2.lit v 25 (.bool false) (.slice none 0 0))
    obtain ⟨v9,hV⟩:=nmz (World.alloc v (.cells #[.bool false,.slice none 0 0] 25))
    obtain ⟨gy,hg⟩:=nmz (v.heap.size)
    rw [hV] at aX cP  ⊢
    rw [hg] at cP  ⊢
    have aL:=hJ (show w1.heap.size≤gy by rw [←hg]; exact aA.out.size)
    have bN:=hJ (show gx≠gy by have:=aC.out.lt; rw [hg] at this; omega)
    have dU:=hJ (bt aA.out aX.out)
    have a_9:=hJ ((a_j.out).new aX.out)
    have b_9:=hJ ((b_j.out).new aX.out)
    have N0_9:=hJ (PIo.new N0_j.out aX.out)
    have gO:=hJ (aC.out.new aX.out)
    clear hHeld
    refine hK.out _ _ (aB.out _ dU.out) (fun hHeld=>?_)
    clear hK K hV hg aX aA a_j b_j N0_j aC
    try simp only [PT]
    exact wpAnyH_cast (by kernel_rfl) (bC s4a A4a n4a c4a gx gy v9 dU a_9 b_9 N0_9 gO (hJ (aG.out)) cP (hJ (aL.out)) (hJ (bN.out)))
   have cB:∀ (s4a:Bool) (A4a:Option Addr) (n4a:Nat) (c4a:Nat) (gy:Nat) (v:World),Hid (Below w1.heap.size w1 v)→Hid (PF v sa Aa na ca sb Ab nb cb p q)→Hid (PF v sd Ad nd cd se Ae ne ce r s)→Hid (PI v s4a A4a n4a c4a (q))→Hid (P2 25 v gy (.bool false) (.slice none 0 0))→Hid (w1.heap.size≤gy)→F 4 (Array.setIfInBounds (Array.setIfInBounds L0 1 true) 5 true) (Act.put (Act.put a0 (some 23) (.agg #[.bool s4a,.slice A4a n4a c4a])) (some 6) (.pointer (some ⟨gy,0,none⟩))) v:=by
    intro s4a A4a n4a c4a gy v aA a_j b_j N0_j aD aH
    subst hF ha0 hL0
    simp only [PT] at bZ bC ⊢
    have hHeld:=aB.out _ aA.out
    refine ryy [3,4] ?_
    refine .cons rfl (fun K hK=>?_) ?_
    go_simp
    go_at_call_of 36 (#[Value.agg #[.bool sd,.slice Ad nd cd,.bool se,.slice Ae ne ce]])
    refine (den_any r s sd se Ad Ae nd cd ne ce v (b_j.out) (by omega) aE.out.2.1).mono ?_
    rintro e v10 ⟨s4b,A4b,n4b,c4b,rfl,hr,hk⟩
    have N1_10:=hJ (hr)
    have bE:=hJ hk
    go_wp2_with fail
    have dW:=hJ (bt aA.out bE.out)
    have a_10:=hJ ((a_j.out).new bE.out)
    have b_10:=hJ ((b_j.out).new bE.out)
    have N0_10:=hJ (PIo.new N0_j.out bE.out)
    have gP:=hJ (aD.out.new bE.out)
    clear hHeld
    refine hK.out _ _ (aB.out _ dW.out) (fun hHeld=>?_)
    clear hK K hk bE hr aA a_j b_j N0_j aD
    try simp only [PT]
    exact wpAnyH_cast (by kernel_rfl) (bZ s4a A4a n4a c4a s4b A4b n4b c4b gy v10 dW a_10 b_10 N0_10 N1_10 gP (hJ (aH.out)))
    refine .cons rfl (fun K hK=>?_) .nil
    go_simp
    have aY:=hJ ((Below.refl v.heap.size v).alloc (Nat.le_refl _) (.cells #[.bool false,.slice none 0 0] 25))
    have cQ:=hJ (P2.lit v 25 (.bool false) (.slice none 0 0))
    obtain ⟨v11,hV⟩:=nmz (World.alloc v (.cells #[.bool false,.slice none 0 0] 25))
    obtain ⟨gx,hg⟩:=nmz (v.heap.size)
    rw [hV] at aY cQ  ⊢
    rw [hg] at cQ  ⊢
    have aM:=hJ (show w1.heap.size≤gx by rw [←hg]; exact aA.out.size)
    have bO:=hJ (show gy≠gx by have:=aD.out.lt; rw [hg] at this; omega)
    have dX:=hJ (bt aA.out aY.out)
    have a_11:=hJ ((a_j.out).new aY.out)
    have b_11:=hJ ((b_j.out).new aY.out)
    have N0_11:=hJ (PIo.new N0_j.out aY.out)
    have gQ:=hJ (aD.out.new aY.out)
    clear hHeld
    refine hK.out _ _ (aB.out _ dX.out) (fun hHeld=>?_)
    clear hK K hV hg aY aA a_j b_j N0_j aD
    try simp only [PT]
    exact wpAnyH_cast (by kernel_rfl) (bC s4a A4a n4a c4a gx gy v11 dX a_11 b_11 N0_11 cQ (hJ (aM.out)) gQ (hJ (aH.out)) (hJ (bO.out.symm)))
   have cC:∀ (gx:Nat) (gy:Nat) (v:World),Hid (Below w1.heap.size w1 v)→Hid (PF v sa Aa na ca sb Ab nb cb p q)→Hid (PF v sd Ad nd cd se Ae ne ce r s)→Hid (P2 25 v gx (.bool false) (.slice none 0 0))→Hid (w1.heap.size≤gx)→Hid (P2 25 v gy (.bool false) (.slice none 0 0))→Hid (w1.heap.size≤gy)→Hid (gx≠gy)→F 4 (Array.setIfInBounds (Array.setIfInBounds L0 4 true) 5 true) (Act.put (Act.put a0 (some 5) (.pointer (some ⟨gx,0,none⟩))) (some 6) (.pointer (some ⟨gy,0,none⟩))) v:=by
    intro gx gy v aA a_j b_j aC aG aD aH bB
    subst hF ha0 hL0
    simp only [PT] at bC ⊢
    have hHeld:=aB.out _ aA.out
    refine ryy [1] ?_
    refine .cons rfl (fun K hK=>?_) .nil
    go_simp
    go_at_call_of 36 (#[Value.agg #[.bool sa,.slice Aa na ca,.bool sb,.slice Ab nb cb]])
    refine (den_any p q sa sb Aa Ab na ca nb cb v (a_j.out) (by omega) aE.out.1).mono ?_
    rintro e v12 ⟨s4a,A4a,n4a,c4a,rfl,hr,hk⟩
    have N0_12:=hJ (hr)
    have bF:=hJ hk
    go_wp2_with fail
    have dY:=hJ (bt aA.out bF.out)
    have a_12:=hJ ((a_j.out).new bF.out)
    have b_12:=hJ ((b_j.out).new bF.out)
    have gR:=hJ (aC.out.new bF.out)
    have gS:=hJ (aD.out.new bF.out)
    clear hHeld
    refine hK.out _ _ (aB.out _ dY.out) (fun hHeld=>?_)
    clear hK K hk bF hr aA a_j b_j aC aD
    try simp only [PT]
    exact wpAnyH_cast (by kernel_rfl) (bC s4a A4a n4a c4a gx gy v12 dY a_12 b_12 N0_12 gR (hJ (aG.out)) gS (hJ (aH.out)) (hJ (bB.out)))
   have J1:∀ (s4a:Bool) (A4a:Option Addr) (n4a:Nat) (c4a:Nat) (v:World),Hid (Below w1.heap.size w1 v)→Hid (PF v sa Aa na ca sb Ab nb cb p q)→Hid (PF v sd Ad nd cd se Ae ne ce r s)→Hid (PI v s4a A4a n4a c4a (q))→F 5 (Array.setIfInBounds L0 1 true) (Act.put a0 (some 23) (.agg #[.bool s4a,.slice A4a n4a c4a])) v:=by
    intro s4a A4a n4a c4a v aA a_j b_j N0_j
    subst hF ha0 hL0
    simp only [PT] at dQ cA cB ⊢
    have hHeld:=aB.out _ aA.out
    refine ryy [3,4,5] ?_
    refine .cons rfl (fun K hK=>?_) ?_
    go_simp
    go_at_call_of 36 (#[Value.agg #[.bool sd,.slice Ad nd cd,.bool se,.slice Ae ne ce]])
    refine (den_any r s sd se Ad Ae nd cd ne ce v (b_j.out) (by omega) aE.out.2.1).mono ?_
    rintro e v13 ⟨s4b,A4b,n4b,c4b,rfl,hr,hk⟩
    have N1_13:=hJ (hr)
    have bP:=hJ hk
    go_wp2_with fail
    have dZ:=hJ (bt aA.out bP.out)
    have a_13:=hJ ((a_j.out).new bP.out)
    have b_13:=hJ ((b_j.out).new bP.out)
    have N0_13:=hJ (PIo.new N0_j.out bP.out)
    clear hHeld
    refine hK.out _ _ (aB.out _ dZ.out) (fun hHeld=>?_)
    clear hK K hk bP hr aA a_j b_j N0_j
    try simp only [PT]
    exact wpAnyH_cast (by kernel_rfl) (dQ s4a A4a n4a c4a s4b A4b n4b c4b v13 dZ a_13 b_13 N0_13 N1_13)
    refine .cons rfl (fun K hK=>?_) ?_
    go_simp
    have bG:=hJ ((Below.refl v.heap.size v).alloc (Nat.le_refl _) (.cells #[.bool false,.slice none 0 0] 25))
    have cR:=hJ (P2.lit v 25 (.bool false) (.slice none 0 0))
    obtain ⟨v14,hV⟩:=nmz (World.alloc v (.cells #[.bool false,.slice none 0 0] 25))
    obtain ⟨gx,hg⟩:=nmz (v.heap.size)
    rw [hV] at bG cR  ⊢
    rw [hg] at cR  ⊢
    have aM:=hJ (show w1.heap.size≤gx by rw [←hg]; exact aA.out.size)
    have eA:=hJ (bt aA.out bG.out)
    have a_14:=hJ ((a_j.out).new bG.out)
    have b_14:=hJ ((b_j.out).new bG.out)
    have N0_14:=hJ (PIo.new N0_j.out bG.out)
    clear hHeld
    refine hK.out _ _ (aB.out _ eA.out) (fun hHeld=>?_)
    clear hK K hV hg bG aA a_j b_j N0_j
    try simp only [PT]
    exact wpAnyH_cast (by kernel_rfl) (cA s4a A4a n4a c4a gx v14 eA a_14 b_14 N0_14 cR (hJ (aM.out)))
    refine .cons rfl (fun K hK=>?_) .nil
    go_simp
    have bH:=hJ ((Below.refl v.heap.size v).alloc (Nat.le_refl _) (.cells #[.bool false,.slice none 0 0] 25))
    have cS:=hJ (P2.lit v 25 (.bool false) (.slice none 0 0))
    obtain ⟨v15,hV⟩:=nmz (World.alloc v (.cells #[.bool false,.slice none 0 0] 25))
    obtain ⟨gy,hg⟩:=nmz (v.heap.size)
    rw [hV] at bH cS  ⊢
    rw [hg] at cS  ⊢
    have aL:=hJ (show w1.heap.size≤gy by rw [←hg]; exact aA.out.size)
    have eB:=hJ (bt aA.out bH.out)
    have a_15:=hJ ((a_j.out).new bH.out)
    have b_15:=hJ ((b_j.out).new bH.out)
    have N0_15:=hJ (PIo.new N0_j.out bH.out)
    clear hHeld
    refine hK.out _ _ (aB.out _ eB.out) (fun hHeld=>?_)
    clear hK K hV hg bH aA a_j b_j N0_j
    try simp only [PT]
    exact wpAnyH_cast (by kernel_rfl) (cB s4a A4a n4a c4a gy v15 eB a_15 b_15 N0_15 cS (hJ (aL.out)))
   have J4:∀ (gx:Nat) (v:World),Hid (Below w1.heap.size w1 v)→Hid (PF v sa Aa na ca sb Ab nb cb p q)→Hid (PF v sd Ad nd cd se Ae ne ce r s)→Hid (P2 25 v gx (.bool false) (.slice none 0 0))→Hid (w1.heap.size≤gx)→F 5 (Array.setIfInBounds L0 4 true) (Act.put a0 (some 5) (.pointer (some ⟨gx,0,none⟩))) v:=by
    intro gx v aA a_j b_j aC aG
    subst hF ha0 hL0
    simp only [PT] at cA cC ⊢
    have hHeld:=aB.out _ aA.out
    refine ryy [1,5] ?_
    refine .cons rfl (fun K hK=>?_) ?_
    go_simp
    go_at_call_of 36 (#[Value.agg #[.bool sa,.slice Aa na ca,.bool sb,.slice Ab nb cb]])
    refine (den_any p q sa sb Aa Ab na ca nb cb v (a_j.out) (by omega) aE.out.1).mono ?_
    rintro e v16 ⟨s4a,A4a,n4a,c4a,rfl,hr,hk⟩
    have N0_16:=hJ (hr)
    have bQ:=hJ hk
    go_wp2_with fail
    have eC:=hJ (bt aA.out bQ.out)
    have a_16:=hJ ((a_j.out).new bQ.out)
    have b_16:=hJ ((b_j.out).new bQ.out)
    have gT:=hJ (aC.out.new bQ.out)
    clear hHeld
    refine hK.out _ _ (aB.out _ eC.out) (fun hHeld=>?_)
    clear hK K hk bQ hr aA a_j b_j aC
    try simp only [PT]
    exact wpAnyH_cast (by kernel_rfl) (cA s4a A4a n4a c4a gx v16 eC a_16 b_16 N0_16 gT (hJ (aG.out)))
    refine .cons rfl (fun K hK=>?_) .nil
    go_simp
    have bJ:=hJ ((Below.refl v.heap.size v).alloc (Nat.le_refl _) (.cells #[.bool false,.slice none 0 0] 25))
    have cT:=hJ (P2.lit v 25 (.bool false) (.slice none 0 0))
    obtain ⟨v17,hV⟩:=nmz (World.alloc v (.cells #[.bool false,.slice none 0 0] 25))
    obtain ⟨gy,hg⟩:=nmz (v.heap.size)
    rw [hV] at bJ cT  ⊢
    rw [hg] at cT  ⊢
    have aL:=hJ (show w1.heap.size≤gy by rw [←hg]; exact aA.out.size)
    have bN:=hJ (show gx≠gy by have:=aC.out.lt; rw [hg] at this; omega)
    have eD:=hJ (bt aA.out bJ.out)
    have a_17:=hJ ((a_j.out).new bJ.out)
    have b_17:=hJ ((b_j.out).new bJ.out)
    have gU:=hJ (aC.out.new bJ.out)
    clear hHeld
    refine hK.out _ _ (aB.out _ eD.out) (fun hHeld=>?_)
    clear hK K hV hg bJ aA a_j b_j aC
    try simp only [PT]
    exact wpAnyH_cast (by kernel_rfl) (cC gx gy v17 eD a_17 b_17 gU (hJ (aG.out)) cT (hJ (aL.out)) (hJ (bN.out)))
   have J5:∀ (gy:Nat) (v:World),Hid (Below w1.heap.size w1 v)→Hid (PF v sa Aa na ca sb Ab nb cb p q)→Hid (PF v sd Ad nd cd se Ae ne ce r s)→Hid (P2 25 v gy (.bool false) (.slice none 0 0))→Hid (w1.heap.size≤gy)→F 5 (Array.setIfInBounds L0 5 true) (Act.put a0 (some 6) (.pointer (some ⟨gy,0,none⟩))) v:=by
    intro gy v aA a_j b_j aD aH
    subst hF ha0 hL0
    simp only [PT] at cB cC ⊢
    have hHeld:=aB.out _ aA.out
    refine ryy [1,4] ?_
    refine .cons rfl (fun K hK=>?_) ?_
    go_simp
    go_at_call_of 36 (#[Value.agg #[.bool sa,.slice Aa na ca,.bool sb,.slice Ab nb cb]])
    refine (den_any p q sa sb Aa Ab na ca nb cb v (a_j.out) (by omega) aE.out.1).mono ?_
    rintro e v18 ⟨s4a,A4a,n4a,c4a,rfl,hr,hk⟩
    have N0_18:=hJ (hr)
    have bR:=hJ hk
    go_wp2_with fail
    have eE:=hJ (bt aA.out bR.out)
    have a_18:=hJ ((a_j.out).new bR.out)
    have b_18:=hJ ((b_j.out).new bR.out)
    have gV:=hJ (aD.out.new bR.out)
    clear hHeld
    refine hK.out _ _ (aB.out _ eE.out) (fun hHeld=>?_)
    clear hK K hk bR hr aA a_j b_j aD
    try simp only [PT]
    exact wpAnyH_cast (by kernel_rfl) (cB s4a A4a n4a c4a gy v18 eE a_18 b_18 N0_18 gV (hJ (aH.out)))
    refine .cons rfl (fun K hK=>?_) .nil
    go_simp
    have bK:=hJ ((Below.refl v.heap.size v).alloc (Nat.le_refl _) (.cells #[.bool false,.slice none 0 0] 25))
    have cU:=hJ (P2.lit v 25 (.bool false) (.slice none 0 0))
    obtain ⟨v19,hV⟩:=nmz (World.alloc v (.cells #[.bool false,.slice none 0 0] 25))
    obtain ⟨gx,hg⟩:=nmz (v.heap.size)
    rw [hV] at bK cU  ⊢
    rw [hg] at cU  ⊢
    have aM:=hJ (show w1.heap.size≤gx by rw [←hg]; exact aA.out.size)
    have bO:=hJ (show gy≠gx by have:=aD.out.lt; rw [hg] at this; omega)
    have eF:=hJ (bt aA.out bK.out)
    have a_19:=hJ ((a_j.out).new bK.out)
    have b_19:=hJ ((b_j.out).new bK.out)
    have gW:=hJ (aD.out.new bK.out)
    clear hHeld
    refine hK.out _ _ (aB.out _ eF.out) (fun hHeld=>?_)
    clear hK K hV hg bK aA a_j b_j aD
    try simp only [PT]
    exact wpAnyH_cast (by kernel_rfl) (cC gx gy v19 eF a_19 b_19 cU (hJ (aM.out)) gW (hJ (aH.out)) (hJ (bO.out.symm)))
   subst hF ha0 hL0
   simp only [PT] at J1 J4 J5
   refine ryy [1,4,5] ?_
   refine .cons rfl (fun K hK=>?_) ?_
   go_simp
   go_at_call_of 36 (#[Value.agg #[.bool sa,.slice Aa na ca,.bool sb,.slice Ab nb cb]])
   refine (den_any p q sa sb Aa Ab na ca nb cb v0 (a_0.out) (by omega) aE.out.1).mono ?_
   rintro e v20 ⟨s4a,A4a,n4a,c4a,rfl,hr,hk⟩
   have N0_20:=hJ (hr)
   have cD:=hJ hk
   go_wp2_with fail
   have eG:=hJ (bt aK.out cD.out)
   have a_20:=hJ ((a_0.out).new cD.out)
   have b_20:=hJ ((b_0.out).new cD.out)
   clear hHeld
   refine hK.out _ _ (aB.out _ eG.out) (fun hHeld=>?_)
   clear hK K hk cD hr aK a_0 b_0
   try simp only [PT]
   exact wpAnyH_cast (by kernel_rfl) (J1 s4a A4a n4a c4a v20 eG a_20 b_20 N0_20)
   refine .cons rfl (fun K hK=>?_) ?_
   go_simp
   have bS:=hJ ((Below.refl v0.heap.size v0).alloc (Nat.le_refl _) (.cells #[.bool false,.slice none 0 0] 25))
   have cV:=hJ (P2.lit v0 25 (.bool false) (.slice none 0 0))
   obtain ⟨v21,hV⟩:=nmz (World.alloc v0 (.cells #[.bool false,.slice none 0 0] 25))
   obtain ⟨gx,hg⟩:=nmz (v0.heap.size)
   rw [hV] at bS cV  ⊢
   rw [hg] at cV  ⊢
   have aM:=hJ (show w1.heap.size≤gx by rw [←hg]; exact aK.out.size)
   have eH:=hJ (bt aK.out bS.out)
   have a_21:=hJ ((a_0.out).new bS.out)
   have b_21:=hJ ((b_0.out).new bS.out)
   clear hHeld
   refine hK.out _ _ (aB.out _ eH.out) (fun hHeld=>?_)
   clear hK K hV hg bS aK a_0 b_0
   try simp only [PT]
   exact wpAnyH_cast (by kernel_rfl) (J4 gx v21 eH a_21 b_21 cV (hJ (aM.out)))
   refine .cons rfl (fun K hK=>?_) .nil
   go_simp
   have bT:=hJ ((Below.refl v0.heap.size v0).alloc (Nat.le_refl _) (.cells #[.bool false,.slice none 0 0] 25))
   have cW:=hJ (P2.lit v0 25 (.bool false) (.slice none 0 0))
   obtain ⟨v22,hV⟩:=nmz (World.alloc v0 (.cells #[.bool false,.slice none 0 0] 25))
   obtain ⟨gy,hg⟩:=nmz (v0.heap.size)
   rw [hV] at bT cW  ⊢
   rw [hg] at cW  ⊢
   have aL:=hJ (show w1.heap.size≤gy by rw [←hg]; exact aK.out.size)
   have eI:=hJ (bt aK.out bT.out)
   have a_22:=hJ ((a_0.out).new bT.out)
   have b_22:=hJ ((b_0.out).new bT.out)
   clear hHeld
   refine hK.out _ _ (aB.out _ eI.out) (fun hHeld=>?_)
   clear hK K hV hg bT aK a_0 b_0
   try simp only [PT]
   exact wpAnyH_cast (by kernel_rfl) (J5 gy v22 eI a_22 b_22 cW (hJ (aL.out)))
  case rest =>
   obtain ⟨G4,H4,s4a,A4a,n4a,c4a,s4b,A4b,n4b,c4b,rfl,rfl,hq1,hq2,hr1,hr2,hbx⟩:=hcut
   have eJ:=hJ hq1
   have cX:=hJ hq2
   have cY:=hJ hr1
   have cE:=hJ hr2
   have bL:=hJ hbx
   obtain ⟨x4,rfl⟩:=nm_world hbx
   clear hq1 hq2 hr1 hr2 hbx aB dK
   have hn4a:n4a≤512:=plim cY.out aE.out.2.2.2.1
   have hn4b:n4b≤512:=plim cE.out aE.out.2.2.2.2.2
   have cZ:=hJ (aQ.out.new bL.out)
   have eK:=hJ (bW.out.new bL.out)
   have eL:=hJ (aR.out.new bL.out)
   have eM:=hJ (bX.out.new bL.out)
   have eN:=hJ (bt cJ.out bL.out)
   clear aQ bW aR bX cJ bL
   obtain ⟨cla0_4,cla1_4,cla2_4,cla3_4⟩:=cZ.out.cells
   obtain ⟨cls0_5,cls1_5⟩:=cX.out.cells
   obtain ⟨x5,dA⟩:=nmz (x4.alloc (.cells #[.bool s4b,.slice A4b n4b c4b] 25))
   have aO:=hJ (show Below x4.heap.size x4 x5 by rw [←dA]; exact (Below.refl _ _).alloc (Nat.le_refl _) _)
   have eO:=hJ (show Pel x5 x4.heap.size [s]∧x4.heap.size < x5.heap.size by rw [←dA]; exact ⟨pel_lit1 cE.out aE.out.2.2.2.2.2,by simp⟩)
   have eP:=hJ (cZ.out.new aO.out)
   have dB:=hJ (eK.out.new aO.out)
   have eQ:=hJ (eL.out.new aO.out)
   have eR:=hJ (eM.out.new aO.out)
   have eS:=hJ (eJ.out.new aO.out)
   have eT:=hJ (PIo.new cY.out aO.out)
   have eU:=hJ (cX.out.new aO.out)
   have eV:=hJ (PIo.new cE.out aO.out)
   have eW:=hJ (bt eN.out aO.out)
   clear cZ eK eL eM eJ cY cX cE eN aO
   go_wp2_with fail
   refine (fproduct_any [s] p sa Aa na ca x4.heap.size 1 x5 dB.out.1 aE.out.2.2.1 eO.out.1 eO.out.2 rfl (by decide)).mono ?_
   rw [(pv_one p s).1,(pv_one p s).2]
   rintro e w6 ⟨s6,A6,n6,c6,rfl,hr6,hb6⟩
   obtain ⟨x6,cF⟩:=nmz (w6.alloc (.cells #[.bool s6,.slice A6 n6 c6] 25))
   have aP:=hJ (show Below x5.heap.size x5 x6 by rw [←cF]; exact hb6.alloc hb6.size _)
   have eX:=hJ (show P2 25 x6 w6.heap.size (.bool s6) (.slice A6 n6 c6) by rw [←cF]; exact P2.lit _ _ _ _)
   have eY:=hJ (show PI x6 s6 A6 n6 c6 (outV (p*s)) by rw [←cF]; exact PIo.new hr6 ((Below.refl _ _).alloc (Nat.le_refl _) _))
   have hn6:n6≤512:=plim hr6 (outV_lim _)
   clear hr6 hb6
   have eZ:=hJ (eP.out.new aP.out)
   have fA:=hJ (dB.out.new aP.out)
   have dD:=hJ (eQ.out.new aP.out)
   have fB:=hJ (eR.out.new aP.out)
   have dE:=hJ (eS.out.new aP.out)
   have dF:=hJ (PIo.new eT.out aP.out)
   have fC:=hJ (eU.out.new aP.out)
   have fD:=hJ (PIo.new eV.out aP.out)
   have fE:=hJ (bt eW.out aP.out)
   clear eP dB eQ eR eS eT eU eV eW cla0_4 cla1_4 cla2_4 cla3_4 cls0_5 cls1_5 dA aP
   obtain ⟨clb0_6,clb1_6,clb2_6,clb3_6⟩:=dD.out.cells
   obtain ⟨clq0_7,clq1_7⟩:=dE.out.cells
   obtain ⟨x7,dG⟩:=nmz (x6.alloc (.cells #[.bool s4a,.slice A4a n4a c4a] 25))
   have aI:=hJ (show Below x6.heap.size x6 x7 by rw [←dG]; exact (Below.refl _ _).alloc (Nat.le_refl _) _)
   have fF:=hJ (show Pel x7 x6.heap.size [q]∧x6.heap.size < x7.heap.size by rw [←dG]; exact ⟨pel_lit1 dF.out aE.out.2.2.2.1,by simp⟩)
   have fG:=hJ (eZ.out.new aI.out)
   have fH:=hJ (fA.out.new aI.out)
   have fI:=hJ (dD.out.new aI.out)
   have dH:=hJ (fB.out.new aI.out)
   have fJ:=hJ (dE.out.new aI.out)
   have fK:=hJ (PIo.new dF.out aI.out)
   have fL:=hJ (fC.out.new aI.out)
   have fM:=hJ (PIo.new fD.out aI.out)
   have fN:=hJ (eX.out.new aI.out)
   have fO:=hJ (PIo.new eY.out aI.out)
   have fP:=hJ (bt fE.out aI.out)
   clear eZ fA dD fB dE dF fC fD eX eY fE aI
   go_wp2_with fail
   refine (fproduct_any [q] r sd Ad nd cd x6.heap.size 1 x7 dH.out.1 aE.out.2.2.2.2.1 fF.out.1 fF.out.2 rfl (by decide)).mono ?_
   rw [(pv_one r q).1,(pv_one r q).2]
   rintro e w8 ⟨s8,A8,n8,c8,rfl,hr8,hb8⟩
   obtain ⟨x8,dI⟩:=nmz (w8.alloc (.cells #[.bool s8,.slice A8 n8 c8] 25))
   have aJ:=hJ (show Below x7.heap.size x7 x8 by rw [←dI]; exact hb8.alloc hb8.size _)
   have fQ:=hJ (show P2 25 x8 w8.heap.size (.bool s8) (.slice A8 n8 c8) by rw [←dI]; exact P2.lit _ _ _ _)
   have fR:=hJ (show PI x8 s8 A8 n8 c8 (outV (r*q)) by rw [←dI]; exact PIo.new hr8 ((Below.refl _ _).alloc (Nat.le_refl _) _))
   have hn8:n8≤512:=plim hr8 (outV_lim _)
   clear hr8 hb8
   have fS:=hJ (fG.out.new aJ.out)
   have fT:=hJ (fH.out.new aJ.out)
   have fU:=hJ (fI.out.new aJ.out)
   have fV:=hJ (dH.out.new aJ.out)
   have fW:=hJ (fJ.out.new aJ.out)
   have fX:=hJ (PIo.new fK.out aJ.out)
   have fY:=hJ (fL.out.new aJ.out)
   have fZ:=hJ (PIo.new fM.out aJ.out)
   have gA:=hJ (fN.out.new aJ.out)
   have gB:=hJ (PIo.new fO.out aJ.out)
   have gC:=hJ (bt fP.out aJ.out)
   clear fG fH fI dH fJ fK fL fM fN fO fP cF clb0_6 clb1_6 clb2_6 clb3_6 clq0_7 clq1_7 dG aJ
   obtain ⟨x9,gD⟩:=nmz (x8.alloc (.cells #[.int .i64 (outC (p*s)),.int .i64 (outC (r*q))] 40))
   have aF:=hJ (show Below x8.heap.size x8 x9 by rw [←gD]; exact (Below.refl _ _).alloc (Nat.le_refl _) _)
   have gX:=hJ (show Codes x9 x8.heap.size [outC (p*s),outC (r*q)] by rw [←gD]; exact codes_lit2 _ _)
   have gY:=hJ (fS.out.new aF.out)
   have gZ:=hJ (fT.out.new aF.out)
   have hA:=hJ (fU.out.new aF.out)
   have hB:=hJ (fV.out.new aF.out)
   have hC:=hJ (fW.out.new aF.out)
   have hD:=hJ (PIo.new fX.out aF.out)
   have hE:=hJ (fY.out.new aF.out)
   have hG:=hJ (PIo.new fZ.out aF.out)
   have hH:=hJ (gA.out.new aF.out)
   have hI:=hJ (PIo.new gB.out aF.out)
   have hL:=hJ (fQ.out.new aF.out)
   have hM:=hJ (PIo.new fR.out aF.out)
   have gE:=hJ (bt gC.out aF.out)
   clear fS fT fU fV fW fX fY fZ gA gB fQ fR gC aF
   go_wp2_with fail
   refine (ferror_any [outC (p*s),outC (r*q)] x8.heap.size 2 x9 gX.out rfl (by decide)).mono ?_
   have dJ:=hJ (two_codes (p*s) (r*q))
   obtain ⟨u,hu⟩:∃ u,feV [outC (p*s),outC (r*q)]=u:=⟨_,rfl⟩
   rw [hu] at dJ ⊢
   clear hu
   rintro e w' ⟨rfl,rfl⟩
   by_cases hu:u=0
   ·have HE:=hJ (dJ.out hu)
    subst hu
    obtain ⟨clleft0_10,clleft1_10⟩:=hH.out.cells
    obtain ⟨clright0_10,clright1_10⟩:=hL.out.cells
    go_wp2_with fail
    refine (pcompare_any (p*s) (r*q) s6 s8 A6 A8 n6 c6 n8 c8 x9 (PIo.eq hI.out HE.out.1) (PIo.eq hM.out HE.out.2) (by omega) (by omega)).mono ?_
    rintro e w2 ⟨rfl,hb2⟩
    have bM:=hJ (bt gE.out hb2)
    clear hb2
    go_wp2
    go_ret
    exact ⟨rfl,bM.out⟩
   ·have hub:(u == 0)=false:=by simp [hu]
    clear hu dJ
    obtain ⟨cla0_11,cla1_11,cla2_11,cla3_11⟩:=gY.out.cells
    obtain ⟨clb0_11,clb1_11,clb2_11,clb3_11⟩:=hA.out.cells
    obtain ⟨clq0_11,clq1_11⟩:=hC.out.cells
    obtain ⟨cls0_11,cls1_11⟩:=hE.out.cells
    go_wp2_with fail
    refine (fparts_any p q r s sa s4a sd s4b Aa A4a Ad A4b na ca n4a c4a nd cd n4b c4b x9 gZ.out.1 hD.out hB.out.1 hG.out aE.out.1 aE.out.2.1 aE.out.2.2.1 aE.out.2.2.2.1 aE.out.2.2.2.2.1 aE.out.2.2.2.2.2).mono ?_
    rintro e w2 ⟨rfl,hb2⟩
    have bM:=hJ (bt gE.out hb2)
    clear hb2
    go_wp2
    go_ret
    exact ⟨rfl,bM.out⟩

end Go.Proofs.YteggneaefggbmaaGreat
