/- Contracts of the program's fractions: compareByParts. Conditions: as each statement has them. -/
import Derived.Test.YtagakcficjcfhaaGreatFD
import Derived.Deep.RegionHeld3
import Derived.Deep.LoopGhost
import Derived.Deep.DeepCutAuto
namespace Go.Proofs.YtagakcficjcfhaaGreat
set_option maxRecDepth 100000
set_option maxHeartbeats 12800000
open Go.RowKit
attribute [local go_sem ↓] Go.wp_at_zero Go.wp_at_succ
theorem quot_lt {P Q R S:Int} (hQ:0 < Q) (hS:0 < S) (h:P / Q < R / S):P*S < R*Q:=by
 have e1:P < (P / Q+1)*Q:=Int.lt_ediv_add_one_mul_self P hQ
 have e2:R / S*S≤R:=Int.ediv_mul_le R (by omega)
 have e3:(P / Q+1)*Q≤R / S*Q:=Int.mul_le_mul_of_nonneg_right (by omega) (by omega)
 have e4:P*S < R / S*Q*S:=Int.mul_lt_mul_of_pos_right (by omega) hS
 have e5:R / S*Q*S=R / S*S*Q:=by rw [Int.mul_assoc,Int.mul_comm Q S,←Int.mul_assoc]
 have e6:R / S*S*Q≤R*Q:=Int.mul_le_mul_of_nonneg_right e2 (by omega)
 omega
theorem cmp_quot_ne {P Q R S:Int} (hQ:0 < Q) (hS:0 < S) (h:cmpI (P / Q) (R / S)≠0):cmpI (P*S) (R*Q)=cmpI (P / Q) (R / S):=by
 rcases Int.lt_trichotomy (P / Q) (R / S) with h1 | h1 | h1
 ·rw [cmpI_lt' h1,cmpI_lt' (quot_lt hQ hS h1)]
 ·exact absurd (cmpI_same h1) h
 ·rw [cmpI_gt' h1,cmpI_gt' (quot_lt hS hQ h1)]
theorem cmp_quot_eq {P Q R S:Int} (h:cmpI (P / Q) (R / S)=0):cmpI (P*S) (R*Q)=cmpI (P % Q*S) (R % S*Q):=by
 have he:P / Q=R / S:=by
  rcases Int.lt_trichotomy (P / Q) (R / S) with h1 | h1 | h1
  ·rw [cmpI_lt' h1] at h; omega
  ·exact h1
  rw [cmpI_gt' h1] at h; omega
 have e1:P*S=Q*(P / Q)*S+P % Q*S:=by rw [←Int.add_mul,Int.mul_ediv_add_emod]
 have e2:R*Q=S*(R / S)*Q+R % S*Q:=by rw [←Int.add_mul,Int.mul_ediv_add_emod]
 have e3:S*(R / S)*Q=Q*(P / Q)*S:=by rw [he,Int.mul_comm S,Int.mul_comm Q,Int.mul_assoc,Int.mul_assoc,Int.mul_comm S Q]
 rw [e1,e2,e3,cmpI_add]
theorem cmp_sign {a b Q S:Int} (hQ:0 < Q) (hS:0 < S) (ha:0≤a) (hb:0≤b) (h:a=0∨b=0):cmpI (a*S) (b*Q)=cmpI (cmpI a 0) (cmpI b 0):=by
 rcases Int.lt_or_eq_of_le ha with ha | ha
 ·rcases h with h | h
  ·omega
  subst h
  have:=Int.mul_pos ha hS
  rw [Int.zero_mul,cmpI_gt' this,cmpI_gt' ha]; rfl
 ·subst ha
  rcases Int.lt_or_eq_of_le hb with hb | hb
  ·have:=Int.mul_pos hb hQ
   rw [Int.zero_mul,cmpI_lt' this,cmpI_gt' hb]; rfl
  ·subst hb
   rw [Int.zero_mul,Int.zero_mul]; rfl
theorem cmpI_cases (a b:Int):(a < b∧cmpI a b = -1)∨(a=b∧cmpI a b=0)∨(b < a∧cmpI a b=1):=by
 rcases Int.lt_trichotomy a b with h | h | h
 ·exact .inl ⟨h,cmpI_lt' h⟩
 ·exact .inr (.inl ⟨h,cmpI_same h⟩)
 ·exact .inr (.inr ⟨h,cmpI_gt' h⟩)
theorem fparts_any (p q r s:Int) (sa sb sd se:Bool) (Aa Ab Ad Ae:Option Addr) (na ca nb cb nd cd ne ce:Nat) (w:World) (hx:PI w sa Aa na ca p) (hy:PI w sb Ab nb cb q) (hz:PI w sd Ad nd cd r) (hv:PI w se Ae ne ce s) (hq:0 < q) (hs:0 < s) (hlp:p.natAbs < lim) (hlq:q.natAbs < lim) (hlr:r.natAbs < lim) (hls:s.natAbs < lim) :
  Calls Tryz.prog 93 #[.agg #[.bool sa,.slice Aa na ca],.agg #[.bool sb,.slice Ab nb cb],.agg #[.bool sd,.slice Ad nd cd],.agg #[.bool se,.slice Ae ne ce]] w fun e w'=>e=.returned (.int .i64 (cmpI (p*s) (r*q)))∧Below w.heap.size w w':=by
 obtain ⟨W,hW⟩:∃ W,(((w.alloc (.cells #[.bool sa,.slice Aa na ca] 33)).alloc (.cells #[.bool sb,.slice Ab nb cb] 33)).alloc (.cells #[.bool sd,.slice Ad nd cd] 33)).alloc (.cells #[.bool se,.slice Ae ne ce] 33)=W:=⟨_,rfl⟩
 have HK:=hJ (show Below w.heap.size w W by rw [←hW]; exact (((((Below.refl _ w).alloc (Nat.le_refl _) _).alloc (by simp) _).alloc (by simp; omega) _).alloc (by simp; omega) _))
 have aR:=hJ (show P2 33 W w.heap.size (.bool sa) (.slice Aa na ca) by rw [←hW]; exact ((W3_a _ w _ _ _ _ _ _).alloc _))
 have aS:=hJ (show P2 33 W (w.heap.size+1) (.bool sb) (.slice Ab nb cb) by rw [←hW]; exact ((W3_b _ w _ _ _ _ _ _).alloc _))
 have aX:=hJ (show P2 33 W (w.heap.size+1+1) (.bool sd) (.slice Ad nd cd) by rw [←hW]; exact ((W3_z _ w _ _ _ _ _ _).alloc _))
 have aT:=hJ (show P2 33 W (w.heap.size+1+1+1) (.bool se) (.slice Ae ne ce) by
  rw [←hW]
  have h0:=P2.lit (((w.alloc (.cells #[.bool sa,.slice Aa na ca] 33)).alloc (.cells #[.bool sb,.slice Ab nb cb] 33)).alloc (.cells #[.bool sd,.slice Ad nd cd] 33)) 33 (.bool se) (.slice Ae ne ce)
  rw [World.size_alloc,World.size_alloc,World.size_alloc] at h0
  exact h0)
 have aY:=hJ (PIo.new hx HK.out)
 have aZ:=hJ (PIo.new hy HK.out)
 have bE:=hJ (PIo.new hz HK.out)
 have bF:=hJ (PIo.new hv HK.out)
 obtain ⟨h,hh⟩:∃ h,w.heap.size=h:=⟨_,rfl⟩
 have HH:=hJ hh
 rw [hh] at aR aS aX aT
 have cW:=hJ (And.intro hq (And.intro hs (And.intro hlp (And.intro hlq (And.intro hlr hls)))))
 clear hx hy hz hv hq hs hlp hlq hlr hls
 go_enter Tryz.func93,Tryz.ntmps93
 go_wp2_with fail
 clear hW hh
 go_loopg [8] (q.natAbs+s.natAbs) (fun g v wr=>∃ (P Q R S:Int) (sa sb sd se:Bool) (Aa Ab Ad Ae:Option Addr) (na nb nd ne ca cb cd ce:Nat),Q.natAbs+S.natAbs=g∧P2 33 wr h (.bool sa) (.slice Aa na ca)∧P2 33 wr (h+1) (.bool sb) (.slice Ab nb cb)∧P2 33 wr (h+1+1) (.bool sd) (.slice Ad nd cd)∧P2 33 wr (h+1+1+1) (.bool se) (.slice Ae ne ce)∧PI wr sa Aa na ca P∧PI wr sb Ab nb cb Q∧PI wr sd Ad nd cd R∧PI wr se Ae ne ce S∧(0 < Q∧0 < S∧P.natAbs < lim∧Q.natAbs < lim∧R.natAbs < lim∧S.natAbs < lim)∧cmpI (P*S) (R*Q)=cmpI (p*s) (r*q)∧Below w.heap.size w wr)
 case atStart=>exact ⟨p,q,r,s,sa,sb,sd,se,Aa,Ab,Ad,Ae,na,nb,nd,ne,ca,cb,cd,ce,rfl,aR.out,aS.out,aX.out,aT.out,aY.out,aZ.out,bE.out,bF.out,cW.out,rfl,HK.out⟩
 case round =>
  clear aR aS aX aT aY aZ bE bF cW HK
  obtain ⟨P,Q,R,S,sa,sb,sd,se,Aa,Ab,Ad,Ae,na,nb,nd,ne,ca,cb,cd,ce,hg,hpa,hpb,hpd,hpe,hra,hrb,hrd,hre,hl,hc,hbel⟩:=hrel
  have HG:=hJ hg
  have HL:=hJ hl
  have HC:=hJ hc
  have HB:=hJ hbel
  have hna:=plim hra hl.2.2.1
  have hnb:=plim hrb hl.2.2.2.1
  have hnd:=plim hrd hl.2.2.2.2.1
  have hne:=plim hre hl.2.2.2.2.2
  have aR:=hJ hpa
  have aS:=hJ hpb
  have aX:=hJ hpd
  have aT:=hJ hpe
  have aY:=hJ hra
  have aZ:=hJ hrb
  have bE:=hJ hrd
  have bF:=hJ hre
  clear hg hpa hpb hpd hpe hra hrb hrd hre hl hc hbel
  obtain ⟨a0,a1⟩:=aR.out.cells
  obtain ⟨b0,b1⟩:=aS.out.cells
  go_wp2_with fail
  refine (pdiv_any P Q sa sb Aa Ab na ca nb cb wr aY.out aZ.out (by omega) (by omega) (by have:=HL.out.1; omega)).mono ?_
  have aU:=hJ (show 0≤P % Q∧P % Q < Q from ⟨Int.emod_nonneg _ (by have:=HL.out.1; omega),Int.emod_lt_of_pos _ HL.out.1⟩)
  have cX:=hJ (show (P / Q).natAbs < lim from Nat.lt_of_le_of_lt (Int.natAbs_ediv_le_natAbs _ _) HL.out.2.2.1)
  have aV:=hJ (show 0≤R % S∧R % S < S from ⟨Int.emod_nonneg _ (by have:=HL.out.2.1; omega),Int.emod_lt_of_pos _ HL.out.2.1⟩)
  have cY:=hJ (show (R / S).natAbs < lim from Nat.lt_of_le_of_lt (Int.natAbs_ediv_le_natAbs _ _) HL.out.2.2.2.2.1)
  have bA:=hJ (fun h:cmpI (P / Q) (R / S)≠0=>(cmp_quot_ne HL.out.1 HL.out.2.1 h).symm.trans HC.out)
  have aO:=hJ (fun h:cmpI (P / Q) (R / S)=0=>(cmp_quot_eq h).symm.trans HC.out)
  obtain ⟨X,hX⟩:∃ X,P / Q=X:=⟨_,rfl⟩
  obtain ⟨x,hx⟩:∃ X,P % Q=X:=⟨_,rfl⟩
  obtain ⟨Y,hY⟩:∃ X,R / S=X:=⟨_,rfl⟩
  obtain ⟨y,hy⟩:∃ X,R % S=X:=⟨_,rfl⟩
  have cZ:=hJ (And.intro hX (And.intro hx (And.intro hY hy)))
  rw [hX] at cX bA aO
  rw [hY] at cY bA aO
  rw [hx] at aU aO
  rw [hy] at aV aO
  rw [hX,hx]
  clear hX hx hY hy
  rintro e w1 ⟨sf,Af,nf,cf,sg,Ag,ng,cg,rfl,hr1,hr2,hb1⟩
  obtain ⟨x1,hy1⟩:∃ x,W2 33 w1 (.bool sf) (.slice Af nf cf) (.bool sg) (.slice Ag ng cg)=x:=⟨_,rfl⟩
  have fV:(w1.alloc (.cells #[.bool sf,.slice Af nf cf] 33)).alloc (.cells #[.bool sg,.slice Ag ng cg] 33)=x1:=hy1
  have aA:=hJ (show Below wr.heap.size wr x1 by rw [←hy1]; exact bt hb1 (W2_k _ _ _ _ _ _))
  have cG:=hJ (show P2 33 x1 w1.heap.size (.bool sf) (.slice Af nf cf) by rw [←hy1]; exact W2_a _ _ _ _ _ _)
  have bJ:=hJ (show P2 33 x1 (w1.heap.size+1) (.bool sg) (.slice Ag ng cg) by rw [←hy1]; exact W2_z _ _ _ _ _ _)
  have dA:=hJ (show PI x1 sf Af nf cf X by rw [←hy1]; exact PIo.new hr1 (W2_k _ _ _ _ _ _))
  have dB:=hJ (show PI x1 sg Ag ng cg x by rw [←hy1]; exact PIo.new hr2 (W2_k _ _ _ _ _ _))
  obtain ⟨g1,hg1⟩:∃ g,w1.heap.size=g:=⟨_,rfl⟩
  have fW:=hJ (show wr.heap.size≤g1 by rw [←hg1]; exact hb1.size)
  rw [hg1] at cG bJ
  clear hr1 hr2 hb1 hy1
  have aB:=hJ (show h+1+1+1 < g1 by have h1:=aT.out.lt; have h2:=fW.out; omega)
  have dD:=hJ (aR.out.new aA.out)
  have dE:=hJ (PIo.new aY.out aA.out)
  have dF:=hJ (aS.out.new aA.out)
  have dG:=hJ (PIo.new aZ.out aA.out)
  have cH:=hJ (aX.out.new aA.out)
  have cI:=hJ (PIo.new bE.out aA.out)
  have cJ:=hJ (aT.out.new aA.out)
  have cK:=hJ (PIo.new bF.out aA.out)
  have dH:=hJ (bt HB.out aA.out)
  clear aR aY aS aZ aX bE aT bF HB aA
  clear a0 a1 b0 b1
  obtain ⟨d0,d1⟩:=cH.out.cells
  obtain ⟨e0,e1⟩:=cJ.out.cells
  go_wp2_with fail
  clear fV hg1
  refine (pdiv_any R S sd se Ad Ae nd cd ne ce x1 cI.out cK.out (by omega) (by omega) (by have:=HL.out.2.1; omega)).mono ?_
  rw [cZ.out.2.2.1,cZ.out.2.2.2]
  rintro e w2 ⟨si,Ai,ni,ci,sj,Aj,nj,cj,rfl,hr1,hr2,hb1⟩
  obtain ⟨x2,hy2⟩:∃ x,W2 33 w2 (.bool si) (.slice Ai ni ci) (.bool sj) (.slice Aj nj cj)=x:=⟨_,rfl⟩
  have fX:(w2.alloc (.cells #[.bool si,.slice Ai ni ci] 33)).alloc (.cells #[.bool sj,.slice Aj nj cj] 33)=x2:=hy2
  have aA:=hJ (show Below x1.heap.size x1 x2 by rw [←hy2]; exact bt hb1 (W2_k _ _ _ _ _ _))
  have bK:=hJ (show P2 33 x2 w2.heap.size (.bool si) (.slice Ai ni ci) by rw [←hy2]; exact W2_a _ _ _ _ _ _)
  have cL:=hJ (show P2 33 x2 (w2.heap.size+1) (.bool sj) (.slice Aj nj cj) by rw [←hy2]; exact W2_z _ _ _ _ _ _)
  have bL:=hJ (show PI x2 si Ai ni ci Y by rw [←hy2]; exact PIo.new hr1 (W2_k _ _ _ _ _ _))
  have dI:=hJ (show PI x2 sj Aj nj cj y by rw [←hy2]; exact PIo.new hr2 (W2_k _ _ _ _ _ _))
  obtain ⟨g2,hg2⟩:∃ g,w2.heap.size=g:=⟨_,rfl⟩
  have fY:=hJ (show x1.heap.size≤g2 by rw [←hg2]; exact hb1.size)
  rw [hg2] at bK cL
  clear hr1 hr2 hb1 hy2
  have aC:=hJ (show g1+1 < g2 by have h1:=bJ.out.lt; have h2:=fY.out; omega)
  have dJ:=hJ (dD.out.new aA.out)
  have dK:=hJ (PIo.new dE.out aA.out)
  have dL:=hJ (dF.out.new aA.out)
  have dM:=hJ (PIo.new dG.out aA.out)
  have dN:=hJ (cH.out.new aA.out)
  have dO:=hJ (PIo.new cI.out aA.out)
  have dP:=hJ (cJ.out.new aA.out)
  have dQ:=hJ (PIo.new cK.out aA.out)
  have dR:=hJ (bt dH.out aA.out)
  have cM:=hJ (cG.out.new aA.out)
  have dS:=hJ (bJ.out.new aA.out)
  have bM:=hJ (PIo.new dA.out aA.out)
  have dT:=hJ (PIo.new dB.out aA.out)
  clear dD dE dF dG cH cI cJ cK dH cG bJ dA dB aA
  clear d0 d1 e0 e1
  obtain ⟨f0,f1⟩:=cM.out.cells
  obtain ⟨i0,i1⟩:=bK.out.cells
  go_wp2_with fail
  clear fX hg2
  refine (pcompare_any X Y sf si Af Ai nf cf ni ci x2 bM.out bL.out (by have:=plim bM.out cX.out; omega) (by have:=plim bL.out cY.out; omega)).mono ?_
  obtain ⟨u,hu⟩:∃ u,cmpI X Y=u:=⟨_,rfl⟩
  rw [hu] at bA aO ⊢
  clear hu
  rintro e w3 ⟨rfl,hb3⟩
  have aA:=hJ hb3
  clear hb3 f0 f1 i0 i1
  have dU:=hJ (dJ.out.new aA.out)
  have dW:=hJ (PIo.new dK.out aA.out)
  have dX:=hJ (dL.out.new aA.out)
  have dY:=hJ (PIo.new dM.out aA.out)
  have dZ:=hJ (dN.out.new aA.out)
  have eA:=hJ (PIo.new dO.out aA.out)
  have eB:=hJ (dP.out.new aA.out)
  have eC:=hJ (PIo.new dQ.out aA.out)
  have cN:=hJ (bt dR.out aA.out)
  have eD:=hJ (cM.out.new aA.out)
  have cO:=hJ (dS.out.new aA.out)
  have eE:=hJ (PIo.new bM.out aA.out)
  have bN:=hJ (PIo.new dT.out aA.out)
  have eF:=hJ (bK.out.new aA.out)
  have eG:=hJ (cL.out.new aA.out)
  have eH:=hJ (PIo.new bL.out aA.out)
  have cP:=hJ (PIo.new dI.out aA.out)
  clear dJ dK dL dM dN dO dP dQ dR cM dS bM dT bK cL bL dI aA
  by_cases hu:u=0
  ·subst hu
   have bG:=hJ (aO.out rfl)
   clear aO bA
   obtain ⟨g0,g1⟩:=cO.out.cells
   go_wp2_with fail
   have hxl:x.natAbs < lim:=by have:=aU.out; have:=HL.out.2.2.2.1; omega
   have hyl:y.natAbs < lim:=by have:=aV.out; have:=HL.out.2.2.2.2.2; omega
   have hnx:=plim bN.out hxl
   have hny:=plim cP.out hyl
   have eI:=hJ (And.intro hxl hyl)
   clear hxl hyl
   refine (sign_any x sg Ag ng cg w3 bN.out (by omega)).mono ?_
   obtain ⟨a,ha⟩:∃ a,cmpI x 0=a:=⟨_,rfl⟩
   have HA:=hJ ha
   rw [ha]
   clear ha
   rintro e w4 ⟨rfl,hb4⟩
   have aA:=hJ hb4
   clear hb4 g0 g1
   have eJ:=hJ (dU.out.new aA.out)
   have fZ:=hJ (PIo.new dW.out aA.out)
   have eK:=hJ (dX.out.new aA.out)
   have eL:=hJ (PIo.new dY.out aA.out)
   have eM:=hJ (dZ.out.new aA.out)
   have gA:=hJ (PIo.new eA.out aA.out)
   have eN:=hJ (eB.out.new aA.out)
   have eO:=hJ (PIo.new eC.out aA.out)
   have cQ:=hJ (bt cN.out aA.out)
   have gB:=hJ (eD.out.new aA.out)
   have bO:=hJ (cO.out.new aA.out)
   have gC:=hJ (PIo.new eE.out aA.out)
   have cR:=hJ (PIo.new bN.out aA.out)
   have gD:=hJ (eF.out.new aA.out)
   have bH:=hJ (eG.out.new aA.out)
   have gE:=hJ (PIo.new eH.out aA.out)
   have bP:=hJ (PIo.new cP.out aA.out)
   clear dU dW dX dY dZ eA eB eC cN eD cO eE bN eF eG eH cP aA
   by_cases bB:x=0
   ·have ha0:a=0:=by rw [←HA.out,bB]; rfl
    have cS:=hJ (show x=0∨y=0 from .inl bB)
    subst ha0
    clear bB
    have aW:=hJ (show cmpI (cmpI x 0) (cmpI y 0)=cmpI (p*s) (r*q) by rw [←cmp_sign HL.out.1 HL.out.2.1 aU.out.1 aV.out.1 cS.out]; exact bG.out)
    let T:=fun w':World=>w'.cell? ⟨g1+1,0,none⟩=some (.bool sg)∧w'.cell? ⟨g1+1,1,none⟩=some (.slice Ag ng cg)∧w'.cell? ⟨g2+1,0,none⟩=some (.bool sj)∧w'.cell? ⟨g2+1,1,none⟩=some (.slice Aj nj cj)∧Below w4.heap.size w4 w'
    have K0:Hid (∀ w',Below w4.heap.size w4 w'→T w'):=hJ (fun w' hb=>⟨(bO.out.new hb).cells.1,(bO.out.new hb).cells.2,(bH.out.new hb).cells.1,(bH.out.new hb).cells.2,hb⟩)
    have K1:Hid (∀ w',T w'→Calls Tryz.prog 104 #[.agg #[.bool sg,.slice Ag ng cg]] w' fun e w''=>e=.returned (.int .i64 (cmpI x 0))∧T w'') :=
     hJ (fun w' h=>(sign_any x sg Ag ng cg w' (PIo.new cR.out h.2.2.2.2) (by omega)).mono (fun e w'' ⟨he,hb⟩=>⟨he,K0.out _ (bt h.2.2.2.2 hb)⟩))
    have K2:Hid (∀ w',T w'→Calls Tryz.prog 104 #[.agg #[.bool sj,.slice Aj nj cj]] w' fun e w''=>e=.returned (.int .i64 (cmpI y 0))∧T w'') :=
     hJ (fun w' h=>(sign_any y sj Aj nj cj w' (PIo.new bP.out h.2.2.2.2) (by omega)).mono (fun e w'' ⟨he,hb⟩=>⟨he,K0.out _ (bt h.2.2.2.2 hb)⟩))
    obtain ⟨a',ha'⟩:∃ a,cmpI x 0=a:=⟨_,rfl⟩
    obtain ⟨b',hb'⟩:∃ a,cmpI y 0=a:=⟨_,rfl⟩
    rw [ha'] at aW K1
    rw [hb'] at aW K2
    clear ha' hb'
    have K3:Hid (∀ w',Calls Tryz.prog 106 #[.int .i64 a',.int .i64 b'] w' fun e w''=>e=.returned (.int .i64 (cmpI a' b'))∧w'=w''):=hJ (fun w'=>cmpi_any a' b' (cmpI a' b') w' (cmpI_cases a' b'))
    have bR:=K0.out _ (Below.refl w4.heap.size w4).drew
    go_wp2_with fail
    go_region_held3 (fun w'=>w'.cell? ⟨g1+1,0,none⟩=some (.bool sg)∧w'.cell? ⟨g1+1,1,none⟩=some (.slice Ag ng cg)∧w'.cell? ⟨g2+1,0,none⟩=some (.bool sj)∧w'.cell? ⟨g2+1,1,none⟩=some (.slice Aj nj cj)∧Below w4.heap.size w4 w') (first | assumption | exact bR | go_keep)
     (first | (go_at_call_of 104 (Value.agg #[.bool sg,.slice Ag ng cg]); refine (K1.out _ ?_).mono ?_; assumption; rintro e w7 ⟨rfl,hc7⟩) | (go_at_call_of 104 (Value.agg #[.bool sj,.slice Aj nj cj]); refine (K2.out _ ?_).mono ?_; assumption; rintro e w8 ⟨rfl,hc8⟩) | (go_at_call 106; refine (K3.out _).mono ?_; rintro e w9 ⟨rfl,rfl⟩))
    all_goals
     rename_i hlast
     have cT:=hJ hlast.2.2.2.2
     clear hlast
     go_wp2
     go_ret
     exact ⟨by rw [←aW.out]; rfl,bt cQ.out cT.out⟩
   have ha0:(a == 0)=false:=by rw [←HA.out]; exact cmpI_zero bB
   have gF:=hJ bB
   clear bB
   obtain ⟨j0,j1⟩:=bH.out.cells
   go_wp2_with fail
   refine (sign_any y sj Aj nj cj w4 bP.out (by omega)).mono ?_
   obtain ⟨b,hb⟩:∃ a,cmpI y 0=a:=⟨_,rfl⟩
   have eP:=hJ hb
   rw [hb]
   clear hb
   rintro e w5 ⟨rfl,hb5⟩
   have aA:=hJ hb5
   clear hb5 j0 j1
   have gG:=hJ (eJ.out.new aA.out)
   have gH:=hJ (eK.out.new aA.out)
   have gI:=hJ (PIo.new eL.out aA.out)
   have gJ:=hJ (eM.out.new aA.out)
   have gK:=hJ (eN.out.new aA.out)
   have gL:=hJ (PIo.new eO.out aA.out)
   have eQ:=hJ (bt cQ.out aA.out)
   have cU:=hJ (bO.out.new aA.out)
   have eR:=hJ (PIo.new cR.out aA.out)
   have cV:=hJ (bH.out.new aA.out)
   have eS:=hJ (PIo.new bP.out aA.out)
   clear eJ fZ eK eL eM gA eN eO cQ gB bO gC cR gD bH gE bP aA
   by_cases hy0:y=0
   ·have hb0:b=0:=by rw [←eP.out,hy0]; rfl
    have cS:=hJ (show x=0∨y=0 from .inr hy0)
    subst hb0
    clear hy0
    have aW:=hJ (show cmpI (cmpI x 0) (cmpI y 0)=cmpI (p*s) (r*q) by rw [←cmp_sign HL.out.1 HL.out.2.1 aU.out.1 aV.out.1 cS.out]; exact bG.out)
    let T:=fun w':World=>w'.cell? ⟨g1+1,0,none⟩=some (.bool sg)∧w'.cell? ⟨g1+1,1,none⟩=some (.slice Ag ng cg)∧w'.cell? ⟨g2+1,0,none⟩=some (.bool sj)∧w'.cell? ⟨g2+1,1,none⟩=some (.slice Aj nj cj)∧Below w5.heap.size w5 w'
    have K0:Hid (∀ w',Below w5.heap.size w5 w'→T w'):=hJ (fun w' hb=>⟨(cU.out.new hb).cells.1,(cU.out.new hb).cells.2,(cV.out.new hb).cells.1,(cV.out.new hb).cells.2,hb⟩)
    have K1:Hid (∀ w',T w'→Calls Tryz.prog 104 #[.agg #[.bool sg,.slice Ag ng cg]] w' fun e w''=>e=.returned (.int .i64 (cmpI x 0))∧T w'') :=
     hJ (fun w' h=>(sign_any x sg Ag ng cg w' (PIo.new eR.out h.2.2.2.2) (by omega)).mono (fun e w'' ⟨he,hb⟩=>⟨he,K0.out _ (bt h.2.2.2.2 hb)⟩))
    have K2:Hid (∀ w',T w'→Calls Tryz.prog 104 #[.agg #[.bool sj,.slice Aj nj cj]] w' fun e w''=>e=.returned (.int .i64 (cmpI y 0))∧T w'') :=
     hJ (fun w' h=>(sign_any y sj Aj nj cj w' (PIo.new eS.out h.2.2.2.2) (by omega)).mono (fun e w'' ⟨he,hb⟩=>⟨he,K0.out _ (bt h.2.2.2.2 hb)⟩))
    obtain ⟨a',ha'⟩:∃ a,cmpI x 0=a:=⟨_,rfl⟩
    obtain ⟨b',hb'⟩:∃ a,cmpI y 0=a:=⟨_,rfl⟩
    rw [ha'] at aW K1
    rw [hb'] at aW K2
    clear ha' hb'
    have K3:Hid (∀ w',Calls Tryz.prog 106 #[.int .i64 a',.int .i64 b'] w' fun e w''=>e=.returned (.int .i64 (cmpI a' b'))∧w'=w''):=hJ (fun w'=>cmpi_any a' b' (cmpI a' b') w' (cmpI_cases a' b'))
    have bR:=K0.out _ (Below.refl w5.heap.size w5).drew
    go_wp2_with fail
    go_region_held3 (fun w'=>w'.cell? ⟨g1+1,0,none⟩=some (.bool sg)∧w'.cell? ⟨g1+1,1,none⟩=some (.slice Ag ng cg)∧w'.cell? ⟨g2+1,0,none⟩=some (.bool sj)∧w'.cell? ⟨g2+1,1,none⟩=some (.slice Aj nj cj)∧Below w5.heap.size w5 w') (first | assumption | exact bR | go_keep)
     (first | (go_at_call_of 104 (Value.agg #[.bool sg,.slice Ag ng cg]); refine (K1.out _ ?_).mono ?_; assumption; rintro e w7 ⟨rfl,hc7⟩) | (go_at_call_of 104 (Value.agg #[.bool sj,.slice Aj nj cj]); refine (K2.out _ ?_).mono ?_; assumption; rintro e w8 ⟨rfl,hc8⟩) | (go_at_call 106; refine (K3.out _).mono ?_; rintro e w9 ⟨rfl,rfl⟩))
    all_goals
     rename_i hlast
     have cT:=hJ hlast.2.2.2.2
     clear hlast
     go_wp2
     go_ret
     exact ⟨by rw [←aW.out]; rfl,bt eQ.out cT.out⟩
   have hb0:(b == 0)=false:=by rw [←eP.out]; exact cmpI_zero hy0
   have bQ:=hJ (show (0 < y∧0 < x∧S.natAbs < lim∧y.natAbs < lim∧Q.natAbs < lim∧x.natAbs < lim)∧cmpI (S*x) (Q*y)=cmpI (p*s) (r*q) from ⟨⟨by have:=aV.out.1; omega,by have:=aU.out.1; have:=gF.out; omega,HL.out.2.2.2.2.2,eI.out.2,HL.out.2.2.2.1,eI.out.1⟩,by rw [Int.mul_comm S x,Int.mul_comm Q y]; exact bG.out⟩)
   clear hy0
   go_wp2_with fail
   obtain ⟨v0,hv0⟩:=nmz (World.drew w5)
   have aH:=hJ (show Below w5.heap.size w5 v0 by rw [←hv0]; exact (Below.refl _ _).drew)
   have bS:=hJ (bt eQ.out aH.out)
   have RE_0:=hJ (PIo.new gL.out aH.out)
   have RJ_0:=hJ (PIo.new eS.out aH.out)
   have RB_0:=hJ (PIo.new gI.out aH.out)
   have RG_0:=hJ (PIo.new eR.out aH.out)
   have aD:=hJ (gG.out.new aH.out)
   have bC:=hJ (gH.out.new aH.out)
   have bT:=hJ (gJ.out.new aH.out)
   have bD:=hJ (gK.out.new aH.out)
   have aF:=hJ (cU.out.new aH.out)
   have aG:=hJ (cV.out.new aH.out)
   refine wp_region_held_drew (S:=(fun w':World=>w'.cell? ⟨(g1+1),0,none⟩=some (.bool sg)∧w'.cell? ⟨(g1+1),1,none⟩=some (.slice Ag ng cg)∧w'.cell? ⟨(g2+1),0,none⟩=some (.bool sj)∧w'.cell? ⟨(g2+1),1,none⟩=some (.slice Aj nj cj))) (by kernel_rfl) ?_ (fun hHeld=>?_)
   ·rw [hv0]
    exact ⟨aF.out.cells.1,aF.out.cells.2,aG.out.cells.1,aG.out.cells.2⟩
   rw [hv0] at hHeld ⊢
   clear hv0 aH
   refine tq 1 ?_
   refine tq 3 ?_
   try simp only [PT]
   refine ryy [0,2] ?_
   refine .cons rfl (fun K hK=>?_) ?_
   ·skip
    obtain ⟨z0,z1⟩:=bD.out.cells
    go_simp
    clear hHeld
    refine hK.out _ _ (⟨aF.out.cells.1,aF.out.cells.2,aG.out.cells.1,aG.out.cells.2⟩) (fun hHeld=>?_)
    clear hK K z0 z1
    try simp only [PT]
    refine ryy [2] ?_
    refine .cons rfl (fun K hK=>?_) .nil
    obtain ⟨z0,z1⟩:=bC.out.cells
    go_simp
    clear hHeld
    refine hK.out _ _ (⟨aF.out.cells.1,aF.out.cells.2,aG.out.cells.1,aG.out.cells.2⟩) (fun hHeld=>?_)
    clear hK K z0 z1
    try simp only [PT]
    refine ryy [4] ?_
    refine .cons rfl (fun K hK=>?_) .nil
    obtain ⟨z0,z1⟩:=aD.out.cells
    have y0:=aD.out.frozen 0
    have y1:=aD.out.frozen 1
    have z9:=aD.out.lt
    go_simp
    obtain ⟨v3,hV⟩:=nmz (World.setCell (World.setCell v0 ⟨h,0,none⟩ (.bool se)) ⟨h,1,none⟩ (.slice Ae ne ce))
    rw [hV]
    have eT:=hJ (show Below w.heap.size w v3 by rw [←hV]; exact below_box bS.out (by rw [HH.out]; omega) _ _)
    have RE_3:=hJ (show PI v3 se Ae ne ce (S) by rw [←hV]; exact PIo.box (RE_0.out) (aD.out) rfl rfl (.bool se) (.slice Ae ne ce))
    have RJ_3:=hJ (show PI v3 sj Aj nj cj (y) by rw [←hV]; exact PIo.box (RJ_0.out) (aD.out) rfl rfl (.bool se) (.slice Ae ne ce))
    have RB_3:=hJ (show PI v3 sb Ab nb cb (Q) by rw [←hV]; exact PIo.box (RB_0.out) (aD.out) rfl rfl (.bool se) (.slice Ae ne ce))
    have RG_3:=hJ (show PI v3 sg Ag ng cg (x) by rw [←hV]; exact PIo.box (RG_0.out) (aD.out) rfl rfl (.bool se) (.slice Ae ne ce))
    have aI:=hJ (show P2 33 v3 (h+1) (.bool sb) (.slice Ab nb cb) by rw [←hV]; exact bC.out.far2 (show (h+1)≠h from (by have:=aB.out; have:=aC.out; omega)) (.bool se) (.slice Ae ne ce))
    have eU:=hJ (show P2 33 v3 (h+1+1) (.bool sd) (.slice Ad nd cd) by rw [←hV]; exact bT.out.far2 (show (h+1+1)≠h from (by have:=aB.out; have:=aC.out; omega)) (.bool se) (.slice Ae ne ce))
    have eV:=hJ (show P2 33 v3 (h+1+1+1) (.bool se) (.slice Ae ne ce) by rw [←hV]; exact bD.out.far2 (show (h+1+1+1)≠h from (by have:=aB.out; have:=aC.out; omega)) (.bool se) (.slice Ae ne ce))
    have bU:=hJ (show P2 33 v3 (g1+1) (.bool sg) (.slice Ag ng cg) by rw [←hV]; exact aF.out.far2 (show (g1+1)≠h from (by have:=aB.out; have:=aC.out; omega)) (.bool se) (.slice Ae ne ce))
    have bV:=hJ (show P2 33 v3 (g2+1) (.bool sj) (.slice Aj nj cj) by rw [←hV]; exact aG.out.far2 (show (g2+1)≠h from (by have:=aB.out; have:=aC.out; omega)) (.bool se) (.slice Ae ne ce))
    have eW:=hJ (show P2 33 v3 h (.bool se) (.slice Ae ne ce) by rw [←hV]; exact aD.out.all (.bool se) (.slice Ae ne ce))
    clear hHeld
    refine hK.out _ _ (⟨bU.out.cells.1,bU.out.cells.2,bV.out.cells.1,bV.out.cells.2⟩) (fun hHeld=>?_)
    clear hK K hV z9 z0 z1 y0 y1 bS RE_0 RJ_0 RB_0 RG_0 bC bT bD aF aG aD
    try simp only [PT]
    refine ryy [5] ?_
    refine .cons rfl (fun K hK=>?_) .nil
    obtain ⟨z0,z1⟩:=aI.out.cells
    have y0:=aI.out.frozen 0
    have y1:=aI.out.frozen 1
    have z9:=aI.out.lt
    go_simp
    obtain ⟨v4,hV⟩:=nmz (World.setCell (World.setCell v3 ⟨(h+1),0,none⟩ (.bool sj)) ⟨(h+1),1,none⟩ (.slice Aj nj cj))
    rw [hV]
    have eX:=hJ (show Below w.heap.size w v4 by rw [←hV]; exact below_box eT.out (by rw [HH.out]; omega) _ _)
    have RE_4:=hJ (show PI v4 se Ae ne ce (S) by rw [←hV]; exact PIo.box (RE_3.out) (aI.out) rfl rfl (.bool sj) (.slice Aj nj cj))
    have RJ_4:=hJ (show PI v4 sj Aj nj cj (y) by rw [←hV]; exact PIo.box (RJ_3.out) (aI.out) rfl rfl (.bool sj) (.slice Aj nj cj))
    have RB_4:=hJ (show PI v4 sb Ab nb cb (Q) by rw [←hV]; exact PIo.box (RB_3.out) (aI.out) rfl rfl (.bool sj) (.slice Aj nj cj))
    have RG_4:=hJ (show PI v4 sg Ag ng cg (x) by rw [←hV]; exact PIo.box (RG_3.out) (aI.out) rfl rfl (.bool sj) (.slice Aj nj cj))
    have eY:=hJ (show P2 33 v4 h (.bool se) (.slice Ae ne ce) by rw [←hV]; exact eW.out.far2 (show h≠(h+1) from (by have:=aB.out; have:=aC.out; omega)) (.bool sj) (.slice Aj nj cj))
    have aJ:=hJ (show P2 33 v4 (h+1+1) (.bool sd) (.slice Ad nd cd) by rw [←hV]; exact eU.out.far2 (show (h+1+1)≠(h+1) from (by have:=aB.out; have:=aC.out; omega)) (.bool sj) (.slice Aj nj cj))
    have eZ:=hJ (show P2 33 v4 (h+1+1+1) (.bool se) (.slice Ae ne ce) by rw [←hV]; exact eV.out.far2 (show (h+1+1+1)≠(h+1) from (by have:=aB.out; have:=aC.out; omega)) (.bool sj) (.slice Aj nj cj))
    have bW:=hJ (show P2 33 v4 (g1+1) (.bool sg) (.slice Ag ng cg) by rw [←hV]; exact bU.out.far2 (show (g1+1)≠(h+1) from (by have:=aB.out; have:=aC.out; omega)) (.bool sj) (.slice Aj nj cj))
    have bX:=hJ (show P2 33 v4 (g2+1) (.bool sj) (.slice Aj nj cj) by rw [←hV]; exact bV.out.far2 (show (g2+1)≠(h+1) from (by have:=aB.out; have:=aC.out; omega)) (.bool sj) (.slice Aj nj cj))
    have fA:=hJ (show P2 33 v4 (h+1) (.bool sj) (.slice Aj nj cj) by rw [←hV]; exact aI.out.all (.bool sj) (.slice Aj nj cj))
    clear hHeld
    refine hK.out _ _ (⟨bW.out.cells.1,bW.out.cells.2,bX.out.cells.1,bX.out.cells.2⟩) (fun hHeld=>?_)
    clear hK K hV z9 z0 z1 y0 y1 eT RE_3 RJ_3 RB_3 RG_3 eW eU eV bU bV aI
    try simp only [PT]
    refine ryy [6] ?_
    refine .cons rfl (fun K hK=>?_) .nil
    obtain ⟨z0,z1⟩:=aJ.out.cells
    have y0:=aJ.out.frozen 0
    have y1:=aJ.out.frozen 1
    have z9:=aJ.out.lt
    go_simp
    obtain ⟨v5,hV⟩:=nmz (World.setCell (World.setCell v4 ⟨(h+1+1),0,none⟩ (.bool sb)) ⟨(h+1+1),1,none⟩ (.slice Ab nb cb))
    rw [hV]
    have fB:=hJ (show Below w.heap.size w v5 by rw [←hV]; exact below_box eX.out (by rw [HH.out]; omega) _ _)
    have RE_5:=hJ (show PI v5 se Ae ne ce (S) by rw [←hV]; exact PIo.box (RE_4.out) (aJ.out) rfl rfl (.bool sb) (.slice Ab nb cb))
    have RJ_5:=hJ (show PI v5 sj Aj nj cj (y) by rw [←hV]; exact PIo.box (RJ_4.out) (aJ.out) rfl rfl (.bool sb) (.slice Ab nb cb))
    have RB_5:=hJ (show PI v5 sb Ab nb cb (Q) by rw [←hV]; exact PIo.box (RB_4.out) (aJ.out) rfl rfl (.bool sb) (.slice Ab nb cb))
    have RG_5:=hJ (show PI v5 sg Ag ng cg (x) by rw [←hV]; exact PIo.box (RG_4.out) (aJ.out) rfl rfl (.bool sb) (.slice Ab nb cb))
    have fC:=hJ (show P2 33 v5 h (.bool se) (.slice Ae ne ce) by rw [←hV]; exact eY.out.far2 (show h≠(h+1+1) from (by have:=aB.out; have:=aC.out; omega)) (.bool sb) (.slice Ab nb cb))
    have fD:=hJ (show P2 33 v5 (h+1) (.bool sj) (.slice Aj nj cj) by rw [←hV]; exact fA.out.far2 (show (h+1)≠(h+1+1) from (by have:=aB.out; have:=aC.out; omega)) (.bool sb) (.slice Ab nb cb))
    have aK:=hJ (show P2 33 v5 (h+1+1+1) (.bool se) (.slice Ae ne ce) by rw [←hV]; exact eZ.out.far2 (show (h+1+1+1)≠(h+1+1) from (by have:=aB.out; have:=aC.out; omega)) (.bool sb) (.slice Ab nb cb))
    have bY:=hJ (show P2 33 v5 (g1+1) (.bool sg) (.slice Ag ng cg) by rw [←hV]; exact bW.out.far2 (show (g1+1)≠(h+1+1) from (by have:=aB.out; have:=aC.out; omega)) (.bool sb) (.slice Ab nb cb))
    have bZ:=hJ (show P2 33 v5 (g2+1) (.bool sj) (.slice Aj nj cj) by rw [←hV]; exact bX.out.far2 (show (g2+1)≠(h+1+1) from (by have:=aB.out; have:=aC.out; omega)) (.bool sb) (.slice Ab nb cb))
    have fE:=hJ (show P2 33 v5 (h+1+1) (.bool sb) (.slice Ab nb cb) by rw [←hV]; exact aJ.out.all (.bool sb) (.slice Ab nb cb))
    clear hHeld
    refine hK.out _ _ (⟨bY.out.cells.1,bY.out.cells.2,bZ.out.cells.1,bZ.out.cells.2⟩) (fun hHeld=>?_)
    clear hK K hV z9 z0 z1 y0 y1 eX RE_4 RJ_4 RB_4 RG_4 eY fA eZ bW bX aJ
    try simp only [PT]
    refine ryy [7] ?_
    refine .cons rfl (fun K hK=>?_) .nil
    obtain ⟨z0,z1⟩:=aK.out.cells
    have y0:=aK.out.frozen 0
    have y1:=aK.out.frozen 1
    have z9:=aK.out.lt
    go_simp
    obtain ⟨v6,hV⟩:=nmz (World.setCell (World.setCell v5 ⟨(h+1+1+1),0,none⟩ (.bool sg)) ⟨(h+1+1+1),1,none⟩ (.slice Ag ng cg))
    rw [hV]
    have gM:=hJ (show Below w.heap.size w v6 by rw [←hV]; exact below_box fB.out (by rw [HH.out]; omega) _ _)
    have RE_6:=hJ (show PI v6 se Ae ne ce (S) by rw [←hV]; exact PIo.box (RE_5.out) (aK.out) rfl rfl (.bool sg) (.slice Ag ng cg))
    have RJ_6:=hJ (show PI v6 sj Aj nj cj (y) by rw [←hV]; exact PIo.box (RJ_5.out) (aK.out) rfl rfl (.bool sg) (.slice Ag ng cg))
    have RB_6:=hJ (show PI v6 sb Ab nb cb (Q) by rw [←hV]; exact PIo.box (RB_5.out) (aK.out) rfl rfl (.bool sg) (.slice Ag ng cg))
    have RG_6:=hJ (show PI v6 sg Ag ng cg (x) by rw [←hV]; exact PIo.box (RG_5.out) (aK.out) rfl rfl (.bool sg) (.slice Ag ng cg))
    have gN:=hJ (show P2 33 v6 h (.bool se) (.slice Ae ne ce) by rw [←hV]; exact fC.out.far2 (show h≠(h+1+1+1) from (by have:=aB.out; have:=aC.out; omega)) (.bool sg) (.slice Ag ng cg))
    have gO:=hJ (show P2 33 v6 (h+1) (.bool sj) (.slice Aj nj cj) by rw [←hV]; exact fD.out.far2 (show (h+1)≠(h+1+1+1) from (by have:=aB.out; have:=aC.out; omega)) (.bool sg) (.slice Ag ng cg))
    have gP:=hJ (show P2 33 v6 (h+1+1) (.bool sb) (.slice Ab nb cb) by rw [←hV]; exact fE.out.far2 (show (h+1+1)≠(h+1+1+1) from (by have:=aB.out; have:=aC.out; omega)) (.bool sg) (.slice Ag ng cg))
    have fF:=hJ (show P2 33 v6 (g1+1) (.bool sg) (.slice Ag ng cg) by rw [←hV]; exact bY.out.far2 (show (g1+1)≠(h+1+1+1) from (by have:=aB.out; have:=aC.out; omega)) (.bool sg) (.slice Ag ng cg))
    have fG:=hJ (show P2 33 v6 (g2+1) (.bool sj) (.slice Aj nj cj) by rw [←hV]; exact bZ.out.far2 (show (g2+1)≠(h+1+1+1) from (by have:=aB.out; have:=aC.out; omega)) (.bool sg) (.slice Ag ng cg))
    have gQ:=hJ (show P2 33 v6 (h+1+1+1) (.bool sg) (.slice Ag ng cg) by rw [←hV]; exact aK.out.all (.bool sg) (.slice Ag ng cg))
    clear hHeld
    refine hK.out _ _ (⟨fF.out.cells.1,fF.out.cells.2,fG.out.cells.1,fG.out.cells.2⟩) (fun hHeld=>?_)
    clear hK K hV z9 z0 z1 y0 y1 fB RE_5 RJ_5 RB_5 RG_5 fC fD fE bY bZ aK
    try simp only [PT]
    refine wpAnyH_done (by kernel_rfl) ?_ _
    clear hHeld
    go_wp2
    go_roundg (x.natAbs+y.natAbs)
    case measure=>have:=aU.out; have:=aV.out; have:=HG.out; omega
    case rel=>exact ⟨S,y,Q,x,se,sj,sb,sg,Ae,Aj,Ab,Ag,ne,nj,nb,ng,ce,cj,cb,cg,by omega,gN.out,gO.out,gP.out,gQ.out,RE_6.out,RJ_6.out,RB_6.out,RG_6.out,bQ.out.1,bQ.out.2,gM.out⟩
   refine .cons rfl (fun K hK=>?_) .nil
   ·skip
    obtain ⟨z0,z1⟩:=bC.out.cells
    go_simp
    clear hHeld
    refine hK.out _ _ (⟨aF.out.cells.1,aF.out.cells.2,aG.out.cells.1,aG.out.cells.2⟩) (fun hHeld=>?_)
    clear hK K z0 z1
    try simp only [PT]
    refine ryy [0] ?_
    refine .cons rfl (fun K hK=>?_) .nil
    obtain ⟨z0,z1⟩:=bD.out.cells
    go_simp
    clear hHeld
    refine hK.out _ _ (⟨aF.out.cells.1,aF.out.cells.2,aG.out.cells.1,aG.out.cells.2⟩) (fun hHeld=>?_)
    clear hK K z0 z1
    try simp only [PT]
    refine ryy [4] ?_
    refine .cons rfl (fun K hK=>?_) .nil
    obtain ⟨z0,z1⟩:=aD.out.cells
    have y0:=aD.out.frozen 0
    have y1:=aD.out.frozen 1
    have z9:=aD.out.lt
    go_simp
    obtain ⟨v9,hV⟩:=nmz (World.setCell (World.setCell v0 ⟨h,0,none⟩ (.bool se)) ⟨h,1,none⟩ (.slice Ae ne ce))
    rw [hV]
    have fH:=hJ (show Below w.heap.size w v9 by rw [←hV]; exact below_box bS.out (by rw [HH.out]; omega) _ _)
    have RE_9:=hJ (show PI v9 se Ae ne ce (S) by rw [←hV]; exact PIo.box (RE_0.out) (aD.out) rfl rfl (.bool se) (.slice Ae ne ce))
    have RJ_9:=hJ (show PI v9 sj Aj nj cj (y) by rw [←hV]; exact PIo.box (RJ_0.out) (aD.out) rfl rfl (.bool se) (.slice Ae ne ce))
    have RB_9:=hJ (show PI v9 sb Ab nb cb (Q) by rw [←hV]; exact PIo.box (RB_0.out) (aD.out) rfl rfl (.bool se) (.slice Ae ne ce))
    have RG_9:=hJ (show PI v9 sg Ag ng cg (x) by rw [←hV]; exact PIo.box (RG_0.out) (aD.out) rfl rfl (.bool se) (.slice Ae ne ce))
    have aL:=hJ (show P2 33 v9 (h+1) (.bool sb) (.slice Ab nb cb) by rw [←hV]; exact bC.out.far2 (show (h+1)≠h from (by have:=aB.out; have:=aC.out; omega)) (.bool se) (.slice Ae ne ce))
    have fI:=hJ (show P2 33 v9 (h+1+1) (.bool sd) (.slice Ad nd cd) by rw [←hV]; exact bT.out.far2 (show (h+1+1)≠h from (by have:=aB.out; have:=aC.out; omega)) (.bool se) (.slice Ae ne ce))
    have fJ:=hJ (show P2 33 v9 (h+1+1+1) (.bool se) (.slice Ae ne ce) by rw [←hV]; exact bD.out.far2 (show (h+1+1+1)≠h from (by have:=aB.out; have:=aC.out; omega)) (.bool se) (.slice Ae ne ce))
    have cA:=hJ (show P2 33 v9 (g1+1) (.bool sg) (.slice Ag ng cg) by rw [←hV]; exact aF.out.far2 (show (g1+1)≠h from (by have:=aB.out; have:=aC.out; omega)) (.bool se) (.slice Ae ne ce))
    have cB:=hJ (show P2 33 v9 (g2+1) (.bool sj) (.slice Aj nj cj) by rw [←hV]; exact aG.out.far2 (show (g2+1)≠h from (by have:=aB.out; have:=aC.out; omega)) (.bool se) (.slice Ae ne ce))
    have fK:=hJ (show P2 33 v9 h (.bool se) (.slice Ae ne ce) by rw [←hV]; exact aD.out.all (.bool se) (.slice Ae ne ce))
    clear hHeld
    refine hK.out _ _ (⟨cA.out.cells.1,cA.out.cells.2,cB.out.cells.1,cB.out.cells.2⟩) (fun hHeld=>?_)
    clear hK K hV z9 z0 z1 y0 y1 bS RE_0 RJ_0 RB_0 RG_0 bC bT bD aF aG aD
    try simp only [PT]
    refine ryy [5] ?_
    refine .cons rfl (fun K hK=>?_) .nil
    obtain ⟨z0,z1⟩:=aL.out.cells
    have y0:=aL.out.frozen 0
    have y1:=aL.out.frozen 1
    have z9:=aL.out.lt
    go_simp
    obtain ⟨v10,hV⟩:=nmz (World.setCell (World.setCell v9 ⟨(h+1),0,none⟩ (.bool sj)) ⟨(h+1),1,none⟩ (.slice Aj nj cj))
    rw [hV]
    have fL:=hJ (show Below w.heap.size w v10 by rw [←hV]; exact below_box fH.out (by rw [HH.out]; omega) _ _)
    have RE_10:=hJ (show PI v10 se Ae ne ce (S) by rw [←hV]; exact PIo.box (RE_9.out) (aL.out) rfl rfl (.bool sj) (.slice Aj nj cj))
    have RJ_10:=hJ (show PI v10 sj Aj nj cj (y) by rw [←hV]; exact PIo.box (RJ_9.out) (aL.out) rfl rfl (.bool sj) (.slice Aj nj cj))
    have RB_10:=hJ (show PI v10 sb Ab nb cb (Q) by rw [←hV]; exact PIo.box (RB_9.out) (aL.out) rfl rfl (.bool sj) (.slice Aj nj cj))
    have RG_10:=hJ (show PI v10 sg Ag ng cg (x) by rw [←hV]; exact PIo.box (RG_9.out) (aL.out) rfl rfl (.bool sj) (.slice Aj nj cj))
    have fM:=hJ (show P2 33 v10 h (.bool se) (.slice Ae ne ce) by rw [←hV]; exact fK.out.far2 (show h≠(h+1) from (by have:=aB.out; have:=aC.out; omega)) (.bool sj) (.slice Aj nj cj))
    have aM:=hJ (show P2 33 v10 (h+1+1) (.bool sd) (.slice Ad nd cd) by rw [←hV]; exact fI.out.far2 (show (h+1+1)≠(h+1) from (by have:=aB.out; have:=aC.out; omega)) (.bool sj) (.slice Aj nj cj))
    have fN:=hJ (show P2 33 v10 (h+1+1+1) (.bool se) (.slice Ae ne ce) by rw [←hV]; exact fJ.out.far2 (show (h+1+1+1)≠(h+1) from (by have:=aB.out; have:=aC.out; omega)) (.bool sj) (.slice Aj nj cj))
    have cC:=hJ (show P2 33 v10 (g1+1) (.bool sg) (.slice Ag ng cg) by rw [←hV]; exact cA.out.far2 (show (g1+1)≠(h+1) from (by have:=aB.out; have:=aC.out; omega)) (.bool sj) (.slice Aj nj cj))
    have cD:=hJ (show P2 33 v10 (g2+1) (.bool sj) (.slice Aj nj cj) by rw [←hV]; exact cB.out.far2 (show (g2+1)≠(h+1) from (by have:=aB.out; have:=aC.out; omega)) (.bool sj) (.slice Aj nj cj))
    have fO:=hJ (show P2 33 v10 (h+1) (.bool sj) (.slice Aj nj cj) by rw [←hV]; exact aL.out.all (.bool sj) (.slice Aj nj cj))
    clear hHeld
    refine hK.out _ _ (⟨cC.out.cells.1,cC.out.cells.2,cD.out.cells.1,cD.out.cells.2⟩) (fun hHeld=>?_)
    clear hK K hV z9 z0 z1 y0 y1 fH RE_9 RJ_9 RB_9 RG_9 fK fI fJ cA cB aL
    try simp only [PT]
    refine ryy [6] ?_
    refine .cons rfl (fun K hK=>?_) .nil
    obtain ⟨z0,z1⟩:=aM.out.cells
    have y0:=aM.out.frozen 0
    have y1:=aM.out.frozen 1
    have z9:=aM.out.lt
    go_simp
    obtain ⟨v11,hV⟩:=nmz (World.setCell (World.setCell v10 ⟨(h+1+1),0,none⟩ (.bool sb)) ⟨(h+1+1),1,none⟩ (.slice Ab nb cb))
    rw [hV]
    have fP:=hJ (show Below w.heap.size w v11 by rw [←hV]; exact below_box fL.out (by rw [HH.out]; omega) _ _)
    have RE_11:=hJ (show PI v11 se Ae ne ce (S) by rw [←hV]; exact PIo.box (RE_10.out) (aM.out) rfl rfl (.bool sb) (.slice Ab nb cb))
    have RJ_11:=hJ (show PI v11 sj Aj nj cj (y) by rw [←hV]; exact PIo.box (RJ_10.out) (aM.out) rfl rfl (.bool sb) (.slice Ab nb cb))
    have RB_11:=hJ (show PI v11 sb Ab nb cb (Q) by rw [←hV]; exact PIo.box (RB_10.out) (aM.out) rfl rfl (.bool sb) (.slice Ab nb cb))
    have RG_11:=hJ (show PI v11 sg Ag ng cg (x) by rw [←hV]; exact PIo.box (RG_10.out) (aM.out) rfl rfl (.bool sb) (.slice Ab nb cb))
    have fQ:=hJ (show P2 33 v11 h (.bool se) (.slice Ae ne ce) by rw [←hV]; exact fM.out.far2 (show h≠(h+1+1) from (by have:=aB.out; have:=aC.out; omega)) (.bool sb) (.slice Ab nb cb))
    have fR:=hJ (show P2 33 v11 (h+1) (.bool sj) (.slice Aj nj cj) by rw [←hV]; exact fO.out.far2 (show (h+1)≠(h+1+1) from (by have:=aB.out; have:=aC.out; omega)) (.bool sb) (.slice Ab nb cb))
    have aN:=hJ (show P2 33 v11 (h+1+1+1) (.bool se) (.slice Ae ne ce) by rw [←hV]; exact fN.out.far2 (show (h+1+1+1)≠(h+1+1) from (by have:=aB.out; have:=aC.out; omega)) (.bool sb) (.slice Ab nb cb))
    have cE:=hJ (show P2 33 v11 (g1+1) (.bool sg) (.slice Ag ng cg) by rw [←hV]; exact cC.out.far2 (show (g1+1)≠(h+1+1) from (by have:=aB.out; have:=aC.out; omega)) (.bool sb) (.slice Ab nb cb))
    have cF:=hJ (show P2 33 v11 (g2+1) (.bool sj) (.slice Aj nj cj) by rw [←hV]; exact cD.out.far2 (show (g2+1)≠(h+1+1) from (by have:=aB.out; have:=aC.out; omega)) (.bool sb) (.slice Ab nb cb))
    have fS:=hJ (show P2 33 v11 (h+1+1) (.bool sb) (.slice Ab nb cb) by rw [←hV]; exact aM.out.all (.bool sb) (.slice Ab nb cb))
    clear hHeld
    refine hK.out _ _ (⟨cE.out.cells.1,cE.out.cells.2,cF.out.cells.1,cF.out.cells.2⟩) (fun hHeld=>?_)
    clear hK K hV z9 z0 z1 y0 y1 fL RE_10 RJ_10 RB_10 RG_10 fM fO fN cC cD aM
    try simp only [PT]
    refine ryy [7] ?_
    refine .cons rfl (fun K hK=>?_) .nil
    obtain ⟨z0,z1⟩:=aN.out.cells
    have y0:=aN.out.frozen 0
    have y1:=aN.out.frozen 1
    have z9:=aN.out.lt
    go_simp
    obtain ⟨v12,hV⟩:=nmz (World.setCell (World.setCell v11 ⟨(h+1+1+1),0,none⟩ (.bool sg)) ⟨(h+1+1+1),1,none⟩ (.slice Ag ng cg))
    rw [hV]
    have gR:=hJ (show Below w.heap.size w v12 by rw [←hV]; exact below_box fP.out (by rw [HH.out]; omega) _ _)
    have RE_12:=hJ (show PI v12 se Ae ne ce (S) by rw [←hV]; exact PIo.box (RE_11.out) (aN.out) rfl rfl (.bool sg) (.slice Ag ng cg))
    have RJ_12:=hJ (show PI v12 sj Aj nj cj (y) by rw [←hV]; exact PIo.box (RJ_11.out) (aN.out) rfl rfl (.bool sg) (.slice Ag ng cg))
    have RB_12:=hJ (show PI v12 sb Ab nb cb (Q) by rw [←hV]; exact PIo.box (RB_11.out) (aN.out) rfl rfl (.bool sg) (.slice Ag ng cg))
    have RG_12:=hJ (show PI v12 sg Ag ng cg (x) by rw [←hV]; exact PIo.box (RG_11.out) (aN.out) rfl rfl (.bool sg) (.slice Ag ng cg))
    have gS:=hJ (show P2 33 v12 h (.bool se) (.slice Ae ne ce) by rw [←hV]; exact fQ.out.far2 (show h≠(h+1+1+1) from (by have:=aB.out; have:=aC.out; omega)) (.bool sg) (.slice Ag ng cg))
    have gT:=hJ (show P2 33 v12 (h+1) (.bool sj) (.slice Aj nj cj) by rw [←hV]; exact fR.out.far2 (show (h+1)≠(h+1+1+1) from (by have:=aB.out; have:=aC.out; omega)) (.bool sg) (.slice Ag ng cg))
    have gU:=hJ (show P2 33 v12 (h+1+1) (.bool sb) (.slice Ab nb cb) by rw [←hV]; exact fS.out.far2 (show (h+1+1)≠(h+1+1+1) from (by have:=aB.out; have:=aC.out; omega)) (.bool sg) (.slice Ag ng cg))
    have fT:=hJ (show P2 33 v12 (g1+1) (.bool sg) (.slice Ag ng cg) by rw [←hV]; exact cE.out.far2 (show (g1+1)≠(h+1+1+1) from (by have:=aB.out; have:=aC.out; omega)) (.bool sg) (.slice Ag ng cg))
    have fU:=hJ (show P2 33 v12 (g2+1) (.bool sj) (.slice Aj nj cj) by rw [←hV]; exact cF.out.far2 (show (g2+1)≠(h+1+1+1) from (by have:=aB.out; have:=aC.out; omega)) (.bool sg) (.slice Ag ng cg))
    have gV:=hJ (show P2 33 v12 (h+1+1+1) (.bool sg) (.slice Ag ng cg) by rw [←hV]; exact aN.out.all (.bool sg) (.slice Ag ng cg))
    clear hHeld
    refine hK.out _ _ (⟨fT.out.cells.1,fT.out.cells.2,fU.out.cells.1,fU.out.cells.2⟩) (fun hHeld=>?_)
    clear hK K hV z9 z0 z1 y0 y1 fP RE_11 RJ_11 RB_11 RG_11 fQ fR fS cE cF aN
    try simp only [PT]
    refine wpAnyH_done (by kernel_rfl) ?_ _
    clear hHeld
    go_wp2
    go_roundg (x.natAbs+y.natAbs)
    case measure=>have:=aU.out; have:=aV.out; have:=HG.out; omega
    case rel=>exact ⟨S,y,Q,x,se,sj,sb,sg,Ae,Aj,Ab,Ag,ne,nj,nb,ng,ce,cj,cb,cg,by omega,gS.out,gT.out,gU.out,gV.out,RE_12.out,RJ_12.out,RB_12.out,RG_12.out,bQ.out.1,bQ.out.2,gR.out⟩
  ·have bG:=hJ (bA.out hu)
   have hub:(u == 0)=false:=by simp [hu]
   clear hu aO bA
   go_wp2
   go_ret
   exact ⟨by rw [←bG.out]; rfl,cN.out⟩
theorem dn_cmp {p q r s:Int} (hq:0 < q) (hs:0 < s):(cmpI (dn q) (dn s)=0→cmpI p r=cmpI (p*s) (r*q))∧True:=by
 refine ⟨fun h=>?_,trivial⟩
 have he:dn q=dn s:=by
  rcases cmpI_cases (dn q) (dn s) with ⟨_,h1⟩ | ⟨h1,_⟩ | ⟨_,h1⟩
  ·omega
  ·exact h1
  omega
 have:q=s:=by
  unfold dn at he
  split at he <;> split at he <;> omega
 subst this
 exact (cmpI_mul hq).symm
theorem two_codes (x y:Int) (h:feV [outC x,outC y]=0):outV x=x∧outV y=y:=by
 rcases outVC x with ⟨_,h1,h2⟩ | ⟨_,h1,h2⟩ <;> rcases outVC y with ⟨_,h3,h4⟩ | ⟨_,h3,h4⟩
 ·exact ⟨h1,h3⟩
 all_goals
  rw [h2,h4] at h
  simp [feV] at h
theorem fcompare_any (p q r s:Int) (sa sb sd se:Bool) (Aa Ab Ad Ae:Option Addr) (na ca nb cb nd cd ne ce:Nat) (w:World) (hx:PF w sa Aa na ca sb Ab nb cb p q) (hy:PF w sd Ad nd cd se Ae ne ce r s) (hq:0 < q) (hs:0 < s) (hlp:p.natAbs < lim) (hlq:q.natAbs < lim) (hlr:r.natAbs < lim) (hls:s.natAbs < lim) :
  Calls Tryz.prog 65 #[.agg #[.bool sa,.slice Aa na ca,.bool sb,.slice Ab nb cb],.agg #[.bool sd,.slice Ad nd cd,.bool se,.slice Ae ne ce]] w fun e w'=>e=.returned (.int .i64 (cmpI (p*s) (r*q)))∧Below w.heap.size w w':=by
 have aF:=hJ (And.intro hq (And.intro hs (And.intro hlp (And.intro hlq (And.intro hlr hls)))))
 obtain ⟨W,hW⟩:∃ W,(w.alloc (.cells #[.bool sa,.slice Aa na ca,.bool sb,.slice Ab nb cb] 35)).alloc (.cells #[.bool sd,.slice Ad nd cd,.bool se,.slice Ae ne ce] 35)=W:=⟨_,rfl⟩
 have HK:=hJ (show Below w.heap.size w W by rw [←hW]; exact ((Below.refl _ w).alloc (Nat.le_refl _) _).alloc (by simp) _)
 have bX:=hJ (show P4 35 W w.heap.size (.bool sa) (.slice Aa na ca) (.bool sb) (.slice Ab nb cb) by rw [←hW]; exact (P4.lit w _ _ _ _ _).new ((Below.refl _ _).alloc (Nat.le_refl _) _))
 have bY:=hJ (show P4 35 W (w.heap.size+1) (.bool sd) (.slice Ad nd cd) (.bool se) (.slice Ae ne ce) by
  rw [←hW]
  have h0:=P4.lit (w.alloc (.cells #[.bool sa,.slice Aa na ca,.bool sb,.slice Ab nb cb] 35)) 35 (.bool sd) (.slice Ad nd cd) (.bool se) (.slice Ae ne ce)
  rw [World.size_alloc] at h0
  exact h0)
 have cJ:=hJ (hx.new HK.out)
 have cK:=hJ (hy.new HK.out)
 have hna:na≤512:=plim hx.1 hlp
 have hnb:nb≤512:=plim hx.2 (dn_lim hlq)
 have hnd:nd≤512:=plim hy.1 hlr
 have hne:ne≤512:=plim hy.2 (dn_lim hls)
 have cL:=hJ (dn_cmp (p:=p) (r:=r) hq hs)
 obtain ⟨h,hh⟩:∃ h,w.heap.size=h:=⟨_,rfl⟩
 rw [hh] at bX bY
 clear hx hy hq hs hlp hlq hlr hls
 go_enter Tryz.func65,Tryz.ntmps65
 obtain ⟨cla0_1,cla1_1,cla2_1,cla3_1⟩:=bX.out.cells
 obtain ⟨clb0_1,clb1_1,clb2_1,clb3_1⟩:=bY.out.cells
 go_wp2_with fail
 refine (pcompare_any (dn q) (dn s) sb se Ab Ae nb cb ne ce W cJ.out.2 cK.out.2 (by omega) (by omega)).mono ?_
 obtain ⟨u,hu⟩:∃ u,cmpI (dn q) (dn s)=u:=⟨_,rfl⟩
 rw [hu] at cL ⊢
 clear hu
 rintro e w1 ⟨rfl,hb1⟩
 have bC:=hJ hb1
 clear hb1
 have aT:=hJ (bX.out.new bC.out)
 have bZ:=hJ (cJ.out.new bC.out)
 have aU:=hJ (bY.out.new bC.out)
 have cA:=hJ (cK.out.new bC.out)
 have cM:=hJ (bt HK.out bC.out)
 clear bX cJ bY cK HK hW hh cla0_1 cla1_1 cla2_1 cla3_1 clb0_1 clb1_1 clb2_1 clb3_1 bC
 by_cases hu:u=0
 ·have gI:=hJ (cL.out.1 hu)
  subst hu
  obtain ⟨cla0_2,cla1_2,cla2_2,cla3_2⟩:=aT.out.cells
  obtain ⟨clb0_2,clb1_2,clb2_2,clb3_2⟩:=aU.out.cells
  go_wp2_with fail
  refine (pcompare_any p r sa sd Aa Ad na ca nd cd w1 bZ.out.1 cA.out.1 (by omega) (by omega)).mono ?_
  rw [gI.out]
  rintro e w2 ⟨rfl,hb2⟩
  have bP:=hJ (bt cM.out hb2)
  clear hb2
  go_wp2
  go_ret
  exact ⟨rfl,bP.out⟩
 ·have hub:(u == 0)=false:=by simp [hu]
  clear hu cL
  obtain ⟨cla0_3,cla1_3,cla2_3,cla3_3⟩:=aT.out.cells
  obtain ⟨clb0_3,clb1_3,clb2_3,clb3_3⟩:=aU.out.cells
  go_wp2_with fail
  clear hub
  clear cla0_3 cla1_3 cla2_3 cla3_3 clb0_3 clb1_3 clb2_3 clb3_3
  have aB:Hid (∀ w',Below w1.heap.size w1 w'→(fun w':World=>w'.cell? ⟨h,0,none⟩=some (.bool sa)∧w'.cell? ⟨h,1,none⟩=some (.slice Aa na ca)∧w'.cell? ⟨h,2,none⟩=some (.bool sb)∧w'.cell? ⟨h,3,none⟩=some (.slice Ab nb cb)∧w'.cell? ⟨(h+1),0,none⟩=some (.bool sd)∧w'.cell? ⟨(h+1),1,none⟩=some (.slice Ad nd cd)∧w'.cell? ⟨(h+1),2,none⟩=some (.bool se)∧w'.cell? ⟨(h+1),3,none⟩=some (.slice Ae ne ce)∧Below w1.heap.size w1 w') w'):=hJ (fun w' hb=>⟨(aT.out.new hb).cells.1,(aT.out.new hb).cells.2.1,(aT.out.new hb).cells.2.2.1,(aT.out.new hb).cells.2.2.2,(aU.out.new hb).cells.1,(aU.out.new hb).cells.2.1,(aU.out.new hb).cells.2.2.1,(aU.out.new hb).cells.2.2.2,hb⟩)
  have dN:=hJ (Below.refl w1.heap.size w1)
  go_upto_region 3 with fail
  go_cut [5,6] (fun tp tq wx=>∃ (G H:Nat) (s4a:Bool) (A4a:Option Addr) (n4a c4a:Nat) (s4b:Bool) (A4b:Option Addr) (n4b c4b:Nat),tp=.pointer (some ⟨G,0,none⟩)∧tq=.pointer (some ⟨H,0,none⟩)∧P2 33 wx G (.bool s4a) (.slice A4a n4a c4a)∧P2 33 wx H (.bool s4b) (.slice A4b n4b c4b)∧PI wx s4a A4a n4a c4a (q)∧PI wx s4b A4b n4b c4b (s)∧Below w1.heap.size w1 wx)
  case first =>
   have gJ:=dN
   obtain ⟨v0,hv0⟩:=nmz (World.drew w1)
   have aL:=hJ (show Below w1.heap.size w1 v0 by rw [←hv0]; exact (Below.refl _ _).drew)
   have a_0:=hJ ((bZ.out).new aL.out)
   have b_0:=hJ ((cA.out).new aL.out)
   refine wp_region_held_drew (S:=(fun w':World=>w'.cell? ⟨h,0,none⟩=some (.bool sa)∧w'.cell? ⟨h,1,none⟩=some (.slice Aa na ca)∧w'.cell? ⟨h,2,none⟩=some (.bool sb)∧w'.cell? ⟨h,3,none⟩=some (.slice Ab nb cb)∧w'.cell? ⟨(h+1),0,none⟩=some (.bool sd)∧w'.cell? ⟨(h+1),1,none⟩=some (.slice Ad nd cd)∧w'.cell? ⟨(h+1),2,none⟩=some (.bool se)∧w'.cell? ⟨(h+1),3,none⟩=some (.slice Ae ne ce)∧Below w1.heap.size w1 w')) (by kernel_rfl) ?_ (fun hHeld=>?_)
   ·rw [hv0]
    exact aB.out _ aL.out
   rw [hv0] at hHeld ⊢
   clear hv0 gJ
   refine tq 0 ?_
   refine tq 2 ?_
   try simp only [PT]
   refine wpAnyH_name (fun F hF a0 ha0 L0 hL0=>?_)
   have bD:∀ (s4a:Bool) (A4a:Option Addr) (n4a:Nat) (c4a:Nat) (s4b:Bool) (A4b:Option Addr) (n4b:Nat) (c4b:Nat) (gx:Nat) (gy:Nat) (v:World),Hid (Below w1.heap.size w1 v)→Hid (PF v sa Aa na ca sb Ab nb cb p q)→Hid (PF v sd Ad nd cd se Ae ne ce r s)→Hid (PI v s4a A4a n4a c4a (q))→Hid (PI v s4b A4b n4b c4b (s))→Hid (P2 33 v gx (.bool false) (.slice none 0 0))→Hid (w1.heap.size≤gx)→Hid (P2 33 v gy (.bool false) (.slice none 0 0))→Hid (w1.heap.size≤gy)→Hid (gx≠gy)→F 2 (Array.setIfInBounds (Array.setIfInBounds (Array.setIfInBounds (Array.setIfInBounds L0 1 true) 3 true) 4 true) 5 true) (Act.put (Act.put (Act.put (Act.put a0 (some 23) (.agg #[.bool s4a,.slice A4a n4a c4a])) (some 25) (.agg #[.bool s4b,.slice A4b n4b c4b])) (some 5) (.pointer (some ⟨gx,0,none⟩))) (some 6) (.pointer (some ⟨gy,0,none⟩))) v:=by
    intro s4a A4a n4a c4a s4b A4b n4b c4b gx gy v aA a_j b_j N0_j N1_j aC aH aD aI bE
    subst hF ha0 hL0
    simp only [PT] at  ⊢
    have hHeld:=aB.out _ aA.out
    refine ryy [6] ?_
    refine .cons rfl (fun K hK=>?_) .nil
    obtain ⟨z0,z1⟩:=aC.out.cells
    have y0:=aC.out.frozen 0
    have y1:=aC.out.frozen 1
    have z9:=aC.out.lt
    go_simp
    obtain ⟨v1,hV⟩:=nmz (World.setCell (World.setCell v ⟨gx,0,none⟩ (.bool s4a)) ⟨gx,1,none⟩ (.slice A4a n4a c4a))
    rw [hV]
    have cN:=hJ (show Below w1.heap.size w1 v1 by rw [←hV]; exact below_box aA.out (aH.out) _ _)
    have a_1:=hJ (show PF v1 sa Aa na ca sb Ab nb cb p q by rw [←hV]; exact PF.box (a_j.out) (aC.out) (.bool s4a) (.slice A4a n4a c4a))
    have b_1:=hJ (show PF v1 sd Ad nd cd se Ae ne ce r s by rw [←hV]; exact PF.box (b_j.out) (aC.out) (.bool s4a) (.slice A4a n4a c4a))
    have N0_1:=hJ (show PI v1 s4a A4a n4a c4a (q) by rw [←hV]; exact PIo.box (N0_j.out) (aC.out) rfl rfl (.bool s4a) (.slice A4a n4a c4a))
    have N1_1:=hJ (show PI v1 s4b A4b n4b c4b (s) by rw [←hV]; exact PIo.box (N1_j.out) (aC.out) rfl rfl (.bool s4a) (.slice A4a n4a c4a))
    have aO:=hJ (show P2 33 v1 gy (.bool false) (.slice none 0 0) by rw [←hV]; exact aD.out.far2 (show gy≠gx from bE.out.symm) (.bool s4a) (.slice A4a n4a c4a))
    have dO:=hJ (show P2 33 v1 gx (.bool s4a) (.slice A4a n4a c4a) by rw [←hV]; exact aC.out.all (.bool s4a) (.slice A4a n4a c4a))
    clear hHeld
    refine hK.out _ _ (aB.out _ cN.out) (fun hHeld=>?_)
    clear hK K hV z9 z0 z1 y0 y1 aA a_j b_j N0_j N1_j aD aC
    try simp only [PT]
    refine ryy [7] ?_
    refine .cons rfl (fun K hK=>?_) .nil
    obtain ⟨z0,z1⟩:=aO.out.cells
    have y0:=aO.out.frozen 0
    have y1:=aO.out.frozen 1
    have z9:=aO.out.lt
    go_simp
    obtain ⟨v2,hV⟩:=nmz (World.setCell (World.setCell v1 ⟨gy,0,none⟩ (.bool s4b)) ⟨gy,1,none⟩ (.slice A4b n4b c4b))
    rw [hV]
    have dP:=hJ (show Below w1.heap.size w1 v2 by rw [←hV]; exact below_box cN.out (aI.out) _ _)
    have a_2:=hJ (show PF v2 sa Aa na ca sb Ab nb cb p q by rw [←hV]; exact PF.box (a_1.out) (aO.out) (.bool s4b) (.slice A4b n4b c4b))
    have b_2:=hJ (show PF v2 sd Ad nd cd se Ae ne ce r s by rw [←hV]; exact PF.box (b_1.out) (aO.out) (.bool s4b) (.slice A4b n4b c4b))
    have N0_2:=hJ (show PI v2 s4a A4a n4a c4a (q) by rw [←hV]; exact PIo.box (N0_1.out) (aO.out) rfl rfl (.bool s4b) (.slice A4b n4b c4b))
    have N1_2:=hJ (show PI v2 s4b A4b n4b c4b (s) by rw [←hV]; exact PIo.box (N1_1.out) (aO.out) rfl rfl (.bool s4b) (.slice A4b n4b c4b))
    have gK:=hJ (show P2 33 v2 gx (.bool s4a) (.slice A4a n4a c4a) by rw [←hV]; exact dO.out.far2 (show gx≠gy from bE.out) (.bool s4b) (.slice A4b n4b c4b))
    have gL:=hJ (show P2 33 v2 gy (.bool s4b) (.slice A4b n4b c4b) by rw [←hV]; exact aO.out.all (.bool s4b) (.slice A4b n4b c4b))
    clear hHeld
    refine hK.out _ _ (aB.out _ dP.out) (fun hHeld=>?_)
    clear hK K hV z9 z0 z1 y0 y1 cN a_1 b_1 N0_1 N1_1 dO aO
    try simp only [PT]
    refine wpAnyH_done (by kernel_rfl) ?_ _
    clear hHeld
    go_wp2_with fail
    go_meet
    exact ⟨gx,gy,s4a,A4a,n4a,c4a,s4b,A4b,n4b,c4b,rfl,rfl,gK.out,gL.out,N0_2.out,N1_2.out,dP.out⟩
   have cB:∀ (s4a:Bool) (A4a:Option Addr) (n4a:Nat) (c4a:Nat) (s4b:Bool) (A4b:Option Addr) (n4b:Nat) (c4b:Nat) (gx:Nat) (v:World),Hid (Below w1.heap.size w1 v)→Hid (PF v sa Aa na ca sb Ab nb cb p q)→Hid (PF v sd Ad nd cd se Ae ne ce r s)→Hid (PI v s4a A4a n4a c4a (q))→Hid (PI v s4b A4b n4b c4b (s))→Hid (P2 33 v gx (.bool false) (.slice none 0 0))→Hid (w1.heap.size≤gx)→F 3 (Array.setIfInBounds (Array.setIfInBounds (Array.setIfInBounds L0 1 true) 3 true) 4 true) (Act.put (Act.put (Act.put a0 (some 23) (.agg #[.bool s4a,.slice A4a n4a c4a])) (some 25) (.agg #[.bool s4b,.slice A4b n4b c4b])) (some 5) (.pointer (some ⟨gx,0,none⟩))) v:=by
    intro s4a A4a n4a c4a s4b A4b n4b c4b gx v aA a_j b_j N0_j N1_j aC aH
    subst hF ha0 hL0
    simp only [PT] at bD ⊢
    have hHeld:=aB.out _ aA.out
    refine ryy [5] ?_
    refine .cons rfl (fun K hK=>?_) .nil
    go_simp
    have aV:=hJ ((Below.refl v.heap.size v).alloc (Nat.le_refl _) (.cells #[.bool false,.slice none 0 0] 33))
    have cO:=hJ (P2.lit v 33 (.bool false) (.slice none 0 0))
    obtain ⟨v3,hV⟩:=nmz (World.alloc v (.cells #[.bool false,.slice none 0 0] 33))
    obtain ⟨gy,hg⟩:=nmz (v.heap.size)
    rw [hV] at aV cO  ⊢
    rw [hg] at cO  ⊢
    have aM:=hJ (show w1.heap.size≤gy by rw [←hg]; exact aA.out.size)
    have bQ:=hJ (show gx≠gy by have:=aC.out.lt; rw [hg] at this; omega)
    have dQ:=hJ (bt aA.out aV.out)
    have a_3:=hJ ((a_j.out).new aV.out)
    have b_3:=hJ ((b_j.out).new aV.out)
    have N0_3:=hJ (PIo.new N0_j.out aV.out)
    have N1_3:=hJ (PIo.new N1_j.out aV.out)
    have gM:=hJ (aC.out.new aV.out)
    clear hHeld
    refine hK.out _ _ (aB.out _ dQ.out) (fun hHeld=>?_)
    clear hK K hV hg aV aA a_j b_j N0_j N1_j aC
    try simp only [PT]
    exact wpAnyH_cast (by kernel_rfl) (bD s4a A4a n4a c4a s4b A4b n4b c4b gx gy v3 dQ a_3 b_3 N0_3 N1_3 gM (hJ (aH.out)) cO (hJ (aM.out)) (hJ (bQ.out)))
   have cC:∀ (s4a:Bool) (A4a:Option Addr) (n4a:Nat) (c4a:Nat) (s4b:Bool) (A4b:Option Addr) (n4b:Nat) (c4b:Nat) (gy:Nat) (v:World),Hid (Below w1.heap.size w1 v)→Hid (PF v sa Aa na ca sb Ab nb cb p q)→Hid (PF v sd Ad nd cd se Ae ne ce r s)→Hid (PI v s4a A4a n4a c4a (q))→Hid (PI v s4b A4b n4b c4b (s))→Hid (P2 33 v gy (.bool false) (.slice none 0 0))→Hid (w1.heap.size≤gy)→F 3 (Array.setIfInBounds (Array.setIfInBounds (Array.setIfInBounds L0 1 true) 3 true) 5 true) (Act.put (Act.put (Act.put a0 (some 23) (.agg #[.bool s4a,.slice A4a n4a c4a])) (some 25) (.agg #[.bool s4b,.slice A4b n4b c4b])) (some 6) (.pointer (some ⟨gy,0,none⟩))) v:=by
    intro s4a A4a n4a c4a s4b A4b n4b c4b gy v aA a_j b_j N0_j N1_j aD aI
    subst hF ha0 hL0
    simp only [PT] at bD ⊢
    have hHeld:=aB.out _ aA.out
    refine ryy [4] ?_
    refine .cons rfl (fun K hK=>?_) .nil
    go_simp
    have aW:=hJ ((Below.refl v.heap.size v).alloc (Nat.le_refl _) (.cells #[.bool false,.slice none 0 0] 33))
    have cP:=hJ (P2.lit v 33 (.bool false) (.slice none 0 0))
    obtain ⟨v4,hV⟩:=nmz (World.alloc v (.cells #[.bool false,.slice none 0 0] 33))
    obtain ⟨gx,hg⟩:=nmz (v.heap.size)
    rw [hV] at aW cP  ⊢
    rw [hg] at cP  ⊢
    have aN:=hJ (show w1.heap.size≤gx by rw [←hg]; exact aA.out.size)
    have bR:=hJ (show gy≠gx by have:=aD.out.lt; rw [hg] at this; omega)
    have dR:=hJ (bt aA.out aW.out)
    have a_4:=hJ ((a_j.out).new aW.out)
    have b_4:=hJ ((b_j.out).new aW.out)
    have N0_4:=hJ (PIo.new N0_j.out aW.out)
    have N1_4:=hJ (PIo.new N1_j.out aW.out)
    have gN:=hJ (aD.out.new aW.out)
    clear hHeld
    refine hK.out _ _ (aB.out _ dR.out) (fun hHeld=>?_)
    clear hK K hV hg aW aA a_j b_j N0_j N1_j aD
    try simp only [PT]
    exact wpAnyH_cast (by kernel_rfl) (bD s4a A4a n4a c4a s4b A4b n4b c4b gx gy v4 dR a_4 b_4 N0_4 N1_4 cP (hJ (aN.out)) gN (hJ (aI.out)) (hJ (bR.out.symm)))
   have bF:∀ (s4a:Bool) (A4a:Option Addr) (n4a:Nat) (c4a:Nat) (gx:Nat) (gy:Nat) (v:World),Hid (Below w1.heap.size w1 v)→Hid (PF v sa Aa na ca sb Ab nb cb p q)→Hid (PF v sd Ad nd cd se Ae ne ce r s)→Hid (PI v s4a A4a n4a c4a (q))→Hid (P2 33 v gx (.bool false) (.slice none 0 0))→Hid (w1.heap.size≤gx)→Hid (P2 33 v gy (.bool false) (.slice none 0 0))→Hid (w1.heap.size≤gy)→Hid (gx≠gy)→F 3 (Array.setIfInBounds (Array.setIfInBounds (Array.setIfInBounds L0 1 true) 4 true) 5 true) (Act.put (Act.put (Act.put a0 (some 23) (.agg #[.bool s4a,.slice A4a n4a c4a])) (some 5) (.pointer (some ⟨gx,0,none⟩))) (some 6) (.pointer (some ⟨gy,0,none⟩))) v:=by
    intro s4a A4a n4a c4a gx gy v aA a_j b_j N0_j aC aH aD aI bE
    subst hF ha0 hL0
    simp only [PT] at bD ⊢
    have hHeld:=aB.out _ aA.out
    refine ryy [3] ?_
    refine .cons rfl (fun K hK=>?_) .nil
    go_simp
    go_at_call_of 90 (#[Value.agg #[.bool sd,.slice Ad nd cd,.bool se,.slice Ae ne ce]])
    refine (den_any r s sd se Ad Ae nd cd ne ce v (b_j.out) (by omega) aF.out.2.1).mono ?_
    rintro e v5 ⟨s4b,A4b,n4b,c4b,rfl,hr,hk⟩
    have N1_5:=hJ (hr)
    have aX:=hJ hk
    go_wp2_with fail
    have dS:=hJ (bt aA.out aX.out)
    have a_5:=hJ ((a_j.out).new aX.out)
    have b_5:=hJ ((b_j.out).new aX.out)
    have N0_5:=hJ (PIo.new N0_j.out aX.out)
    have gO:=hJ (aC.out.new aX.out)
    have gP:=hJ (aD.out.new aX.out)
    clear hHeld
    refine hK.out _ _ (aB.out _ dS.out) (fun hHeld=>?_)
    clear hK K hk aX hr aA a_j b_j N0_j aC aD
    try simp only [PT]
    exact wpAnyH_cast (by kernel_rfl) (bD s4a A4a n4a c4a s4b A4b n4b c4b gx gy v5 dS a_5 b_5 N0_5 N1_5 gO (hJ (aH.out)) gP (hJ (aI.out)) (hJ (bE.out)))
   have dT:∀ (s4a:Bool) (A4a:Option Addr) (n4a:Nat) (c4a:Nat) (s4b:Bool) (A4b:Option Addr) (n4b:Nat) (c4b:Nat) (v:World),Hid (Below w1.heap.size w1 v)→Hid (PF v sa Aa na ca sb Ab nb cb p q)→Hid (PF v sd Ad nd cd se Ae ne ce r s)→Hid (PI v s4a A4a n4a c4a (q))→Hid (PI v s4b A4b n4b c4b (s))→F 4 (Array.setIfInBounds (Array.setIfInBounds L0 1 true) 3 true) (Act.put (Act.put a0 (some 23) (.agg #[.bool s4a,.slice A4a n4a c4a])) (some 25) (.agg #[.bool s4b,.slice A4b n4b c4b])) v:=by
    intro s4a A4a n4a c4a s4b A4b n4b c4b v aA a_j b_j N0_j N1_j
    subst hF ha0 hL0
    simp only [PT] at cB cC ⊢
    have hHeld:=aB.out _ aA.out
    refine ryy [4,5] ?_
    refine .cons rfl (fun K hK=>?_) ?_
    go_simp
    have aY:=hJ ((Below.refl v.heap.size v).alloc (Nat.le_refl _) (.cells #[.bool false,.slice none 0 0] 33))
    have cQ:=hJ (P2.lit v 33 (.bool false) (.slice none 0 0))
    obtain ⟨v6,hV⟩:=nmz (World.alloc v (.cells #[.bool false,.slice none 0 0] 33))
    obtain ⟨gx,hg⟩:=nmz (v.heap.size)
    rw [hV] at aY cQ  ⊢
    rw [hg] at cQ  ⊢
    have aN:=hJ (show w1.heap.size≤gx by rw [←hg]; exact aA.out.size)
    have dU:=hJ (bt aA.out aY.out)
    have a_6:=hJ ((a_j.out).new aY.out)
    have b_6:=hJ ((b_j.out).new aY.out)
    have N0_6:=hJ (PIo.new N0_j.out aY.out)
    have N1_6:=hJ (PIo.new N1_j.out aY.out)
    clear hHeld
    refine hK.out _ _ (aB.out _ dU.out) (fun hHeld=>?_)
    clear hK K hV hg aY aA a_j b_j N0_j N1_j
    try simp only [PT]
    exact wpAnyH_cast (by kernel_rfl) (cB s4a A4a n4a c4a s4b A4b n4b c4b gx v6 dU a_6 b_6 N0_6 N1_6 cQ (hJ (aN.out)))
    refine .cons rfl (fun K hK=>?_) .nil
    go_simp
    have aZ:=hJ ((Below.refl v.heap.size v).alloc (Nat.le_refl _) (.cells #[.bool false,.slice none 0 0] 33))
    have cR:=hJ (P2.lit v 33 (.bool false) (.slice none 0 0))
    obtain ⟨v7,hV⟩:=nmz (World.alloc v (.cells #[.bool false,.slice none 0 0] 33))
    obtain ⟨gy,hg⟩:=nmz (v.heap.size)
    rw [hV] at aZ cR  ⊢
    rw [hg] at cR  ⊢
    have aM:=hJ (show w1.heap.size≤gy by rw [←hg]; exact aA.out.size)
    have dW:=hJ (bt aA.out aZ.out)
    have a_7:=hJ ((a_j.out).new aZ.out)
    have b_7:=hJ ((b_j.out).new aZ.out)
    have N0_7:=hJ (PIo.new N0_j.out aZ.out)
    have N1_7:=hJ (PIo.new N1_j.out aZ.out)
    clear hHeld
    refine hK.out _ _ (aB.out _ dW.out) (fun hHeld=>?_)
    clear hK K hV hg aZ aA a_j b_j N0_j N1_j
    try simp only [PT]
    exact wpAnyH_cast (by kernel_rfl) (cC s4a A4a n4a c4a s4b A4b n4b c4b gy v7 dW a_7 b_7 N0_7 N1_7 cR (hJ (aM.out)))
   have cD:∀ (s4a:Bool) (A4a:Option Addr) (n4a:Nat) (c4a:Nat) (gx:Nat) (v:World),Hid (Below w1.heap.size w1 v)→Hid (PF v sa Aa na ca sb Ab nb cb p q)→Hid (PF v sd Ad nd cd se Ae ne ce r s)→Hid (PI v s4a A4a n4a c4a (q))→Hid (P2 33 v gx (.bool false) (.slice none 0 0))→Hid (w1.heap.size≤gx)→F 4 (Array.setIfInBounds (Array.setIfInBounds L0 1 true) 4 true) (Act.put (Act.put a0 (some 23) (.agg #[.bool s4a,.slice A4a n4a c4a])) (some 5) (.pointer (some ⟨gx,0,none⟩))) v:=by
    intro s4a A4a n4a c4a gx v aA a_j b_j N0_j aC aH
    subst hF ha0 hL0
    simp only [PT] at cB bF ⊢
    have hHeld:=aB.out _ aA.out
    refine ryy [3,5] ?_
    refine .cons rfl (fun K hK=>?_) ?_
    go_simp
    go_at_call_of 90 (#[Value.agg #[.bool sd,.slice Ad nd cd,.bool se,.slice Ae ne ce]])
    refine (den_any r s sd se Ad Ae nd cd ne ce v (b_j.out) (by omega) aF.out.2.1).mono ?_
    rintro e v8 ⟨s4b,A4b,n4b,c4b,rfl,hr,hk⟩
    have N1_8:=hJ (hr)
    have bG:=hJ hk
    go_wp2_with fail
    have dX:=hJ (bt aA.out bG.out)
    have a_8:=hJ ((a_j.out).new bG.out)
    have b_8:=hJ ((b_j.out).new bG.out)
    have N0_8:=hJ (PIo.new N0_j.out bG.out)
    have gQ:=hJ (aC.out.new bG.out)
    clear hHeld
    refine hK.out _ _ (aB.out _ dX.out) (fun hHeld=>?_)
    clear hK K hk bG hr aA a_j b_j N0_j aC
    try simp only [PT]
    exact wpAnyH_cast (by kernel_rfl) (cB s4a A4a n4a c4a s4b A4b n4b c4b gx v8 dX a_8 b_8 N0_8 N1_8 gQ (hJ (aH.out)))
    refine .cons rfl (fun K hK=>?_) .nil
    go_simp
    have bA:=hJ ((Below.refl v.heap.size v).alloc (Nat.le_refl _) (.cells #[.bool false,.slice none 0 0] 33))
    have cS:=hJ (P2.lit v 33 (.bool false) (.slice none 0 0))
    obtain ⟨v9,hV⟩:=nmz (World.alloc v (.cells #[.bool false,.slice none 0 0] 33))
    obtain ⟨gy,hg⟩:=nmz (v.heap.size)
    rw [hV] at bA cS  ⊢
    rw [hg] at cS  ⊢
    have aM:=hJ (show w1.heap.size≤gy by rw [←hg]; exact aA.out.size)
    have bQ:=hJ (show gx≠gy by have:=aC.out.lt; rw [hg] at this; omega)
    have dY:=hJ (bt aA.out bA.out)
    have a_9:=hJ ((a_j.out).new bA.out)
    have b_9:=hJ ((b_j.out).new bA.out)
    have N0_9:=hJ (PIo.new N0_j.out bA.out)
    have gR:=hJ (aC.out.new bA.out)
    clear hHeld
    refine hK.out _ _ (aB.out _ dY.out) (fun hHeld=>?_)
    clear hK K hV hg bA aA a_j b_j N0_j aC
    try simp only [PT]
    exact wpAnyH_cast (by kernel_rfl) (bF s4a A4a n4a c4a gx gy v9 dY a_9 b_9 N0_9 gR (hJ (aH.out)) cS (hJ (aM.out)) (hJ (bQ.out)))
   have cE:∀ (s4a:Bool) (A4a:Option Addr) (n4a:Nat) (c4a:Nat) (gy:Nat) (v:World),Hid (Below w1.heap.size w1 v)→Hid (PF v sa Aa na ca sb Ab nb cb p q)→Hid (PF v sd Ad nd cd se Ae ne ce r s)→Hid (PI v s4a A4a n4a c4a (q))→Hid (P2 33 v gy (.bool false) (.slice none 0 0))→Hid (w1.heap.size≤gy)→F 4 (Array.setIfInBounds (Array.setIfInBounds L0 1 true) 5 true) (Act.put (Act.put a0 (some 23) (.agg #[.bool s4a,.slice A4a n4a c4a])) (some 6) (.pointer (some ⟨gy,0,none⟩))) v:=by
    intro s4a A4a n4a c4a gy v aA a_j b_j N0_j aD aI
    subst hF ha0 hL0
    simp only [PT] at cC bF ⊢
    have hHeld:=aB.out _ aA.out
    refine ryy [3,4] ?_
    refine .cons rfl (fun K hK=>?_) ?_
    go_simp
    go_at_call_of 90 (#[Value.agg #[.bool sd,.slice Ad nd cd,.bool se,.slice Ae ne ce]])
    refine (den_any r s sd se Ad Ae nd cd ne ce v (b_j.out) (by omega) aF.out.2.1).mono ?_
    rintro e v10 ⟨s4b,A4b,n4b,c4b,rfl,hr,hk⟩
    have N1_10:=hJ (hr)
    have bH:=hJ hk
    go_wp2_with fail
    have dZ:=hJ (bt aA.out bH.out)
    have a_10:=hJ ((a_j.out).new bH.out)
    have b_10:=hJ ((b_j.out).new bH.out)
    have N0_10:=hJ (PIo.new N0_j.out bH.out)
    have gS:=hJ (aD.out.new bH.out)
    clear hHeld
    refine hK.out _ _ (aB.out _ dZ.out) (fun hHeld=>?_)
    clear hK K hk bH hr aA a_j b_j N0_j aD
    try simp only [PT]
    exact wpAnyH_cast (by kernel_rfl) (cC s4a A4a n4a c4a s4b A4b n4b c4b gy v10 dZ a_10 b_10 N0_10 N1_10 gS (hJ (aI.out)))
    refine .cons rfl (fun K hK=>?_) .nil
    go_simp
    have bB:=hJ ((Below.refl v.heap.size v).alloc (Nat.le_refl _) (.cells #[.bool false,.slice none 0 0] 33))
    have cT:=hJ (P2.lit v 33 (.bool false) (.slice none 0 0))
    obtain ⟨v11,hV⟩:=nmz (World.alloc v (.cells #[.bool false,.slice none 0 0] 33))
    obtain ⟨gx,hg⟩:=nmz (v.heap.size)
    rw [hV] at bB cT  ⊢
    rw [hg] at cT  ⊢
    have aN:=hJ (show w1.heap.size≤gx by rw [←hg]; exact aA.out.size)
    have bR:=hJ (show gy≠gx by have:=aD.out.lt; rw [hg] at this; omega)
    have eA:=hJ (bt aA.out bB.out)
    have a_11:=hJ ((a_j.out).new bB.out)
    have b_11:=hJ ((b_j.out).new bB.out)
    have N0_11:=hJ (PIo.new N0_j.out bB.out)
    have gT:=hJ (aD.out.new bB.out)
    clear hHeld
    refine hK.out _ _ (aB.out _ eA.out) (fun hHeld=>?_)
    clear hK K hV hg bB aA a_j b_j N0_j aD
    try simp only [PT]
    exact wpAnyH_cast (by kernel_rfl) (bF s4a A4a n4a c4a gx gy v11 eA a_11 b_11 N0_11 cT (hJ (aN.out)) gT (hJ (aI.out)) (hJ (bR.out.symm)))
   have cF:∀ (gx:Nat) (gy:Nat) (v:World),Hid (Below w1.heap.size w1 v)→Hid (PF v sa Aa na ca sb Ab nb cb p q)→Hid (PF v sd Ad nd cd se Ae ne ce r s)→Hid (P2 33 v gx (.bool false) (.slice none 0 0))→Hid (w1.heap.size≤gx)→Hid (P2 33 v gy (.bool false) (.slice none 0 0))→Hid (w1.heap.size≤gy)→Hid (gx≠gy)→F 4 (Array.setIfInBounds (Array.setIfInBounds L0 4 true) 5 true) (Act.put (Act.put a0 (some 5) (.pointer (some ⟨gx,0,none⟩))) (some 6) (.pointer (some ⟨gy,0,none⟩))) v:=by
    intro gx gy v aA a_j b_j aC aH aD aI bE
    subst hF ha0 hL0
    simp only [PT] at bF ⊢
    have hHeld:=aB.out _ aA.out
    refine ryy [1] ?_
    refine .cons rfl (fun K hK=>?_) .nil
    go_simp
    go_at_call_of 90 (#[Value.agg #[.bool sa,.slice Aa na ca,.bool sb,.slice Ab nb cb]])
    refine (den_any p q sa sb Aa Ab na ca nb cb v (a_j.out) (by omega) aF.out.1).mono ?_
    rintro e v12 ⟨s4a,A4a,n4a,c4a,rfl,hr,hk⟩
    have N0_12:=hJ (hr)
    have bJ:=hJ hk
    go_wp2_with fail
    have eB:=hJ (bt aA.out bJ.out)
    have a_12:=hJ ((a_j.out).new bJ.out)
    have b_12:=hJ ((b_j.out).new bJ.out)
    have gU:=hJ (aC.out.new bJ.out)
    have gV:=hJ (aD.out.new bJ.out)
    clear hHeld
    refine hK.out _ _ (aB.out _ eB.out) (fun hHeld=>?_)
    clear hK K hk bJ hr aA a_j b_j aC aD
    try simp only [PT]
    exact wpAnyH_cast (by kernel_rfl) (bF s4a A4a n4a c4a gx gy v12 eB a_12 b_12 N0_12 gU (hJ (aH.out)) gV (hJ (aI.out)) (hJ (bE.out)))
   have J1:∀ (s4a:Bool) (A4a:Option Addr) (n4a:Nat) (c4a:Nat) (v:World),Hid (Below w1.heap.size w1 v)→Hid (PF v sa Aa na ca sb Ab nb cb p q)→Hid (PF v sd Ad nd cd se Ae ne ce r s)→Hid (PI v s4a A4a n4a c4a (q))→F 5 (Array.setIfInBounds L0 1 true) (Act.put a0 (some 23) (.agg #[.bool s4a,.slice A4a n4a c4a])) v:=by
    intro s4a A4a n4a c4a v aA a_j b_j N0_j
    subst hF ha0 hL0
    simp only [PT] at dT cD cE ⊢
    have hHeld:=aB.out _ aA.out
    refine ryy [3,4,5] ?_
    refine .cons rfl (fun K hK=>?_) ?_
    go_simp
    go_at_call_of 90 (#[Value.agg #[.bool sd,.slice Ad nd cd,.bool se,.slice Ae ne ce]])
    refine (den_any r s sd se Ad Ae nd cd ne ce v (b_j.out) (by omega) aF.out.2.1).mono ?_
    rintro e v13 ⟨s4b,A4b,n4b,c4b,rfl,hr,hk⟩
    have N1_13:=hJ (hr)
    have bS:=hJ hk
    go_wp2_with fail
    have eC:=hJ (bt aA.out bS.out)
    have a_13:=hJ ((a_j.out).new bS.out)
    have b_13:=hJ ((b_j.out).new bS.out)
    have N0_13:=hJ (PIo.new N0_j.out bS.out)
    clear hHeld
    refine hK.out _ _ (aB.out _ eC.out) (fun hHeld=>?_)
    clear hK K hk bS hr aA a_j b_j N0_j
    try simp only [PT]
    exact wpAnyH_cast (by kernel_rfl) (dT s4a A4a n4a c4a s4b A4b n4b c4b v13 eC a_13 b_13 N0_13 N1_13)
    refine .cons rfl (fun K hK=>?_) ?_
    go_simp
    have bK:=hJ ((Below.refl v.heap.size v).alloc (Nat.le_refl _) (.cells #[.bool false,.slice none 0 0] 33))
    have cU:=hJ (P2.lit v 33 (.bool false) (.slice none 0 0))
    obtain ⟨v14,hV⟩:=nmz (World.alloc v (.cells #[.bool false,.slice none 0 0] 33))
    obtain ⟨gx,hg⟩:=nmz (v.heap.size)
    rw [hV] at bK cU  ⊢
    rw [hg] at cU  ⊢
    have aN:=hJ (show w1.heap.size≤gx by rw [←hg]; exact aA.out.size)
    have eD:=hJ (bt aA.out bK.out)
    have a_14:=hJ ((a_j.out).new bK.out)
    have b_14:=hJ ((b_j.out).new bK.out)
    have N0_14:=hJ (PIo.new N0_j.out bK.out)
    clear hHeld
    refine hK.out _ _ (aB.out _ eD.out) (fun hHeld=>?_)
    clear hK K hV hg bK aA a_j b_j N0_j
    try simp only [PT]
    exact wpAnyH_cast (by kernel_rfl) (cD s4a A4a n4a c4a gx v14 eD a_14 b_14 N0_14 cU (hJ (aN.out)))
    refine .cons rfl (fun K hK=>?_) .nil
    go_simp
    have bL:=hJ ((Below.refl v.heap.size v).alloc (Nat.le_refl _) (.cells #[.bool false,.slice none 0 0] 33))
    have cV:=hJ (P2.lit v 33 (.bool false) (.slice none 0 0))
    obtain ⟨v15,hV⟩:=nmz (World.alloc v (.cells #[.bool false,.slice none 0 0] 33))
    obtain ⟨gy,hg⟩:=nmz (v.heap.size)
    rw [hV] at bL cV  ⊢
    rw [hg] at cV  ⊢
    have aM:=hJ (show w1.heap.size≤gy by rw [←hg]; exact aA.out.size)
    have eE:=hJ (bt aA.out bL.out)
    have a_15:=hJ ((a_j.out).new bL.out)
    have b_15:=hJ ((b_j.out).new bL.out)
    have N0_15:=hJ (PIo.new N0_j.out bL.out)
    clear hHeld
    refine hK.out _ _ (aB.out _ eE.out) (fun hHeld=>?_)
    clear hK K hV hg bL aA a_j b_j N0_j
    try simp only [PT]
    exact wpAnyH_cast (by kernel_rfl) (cE s4a A4a n4a c4a gy v15 eE a_15 b_15 N0_15 cV (hJ (aM.out)))
   have J4:∀ (gx:Nat) (v:World),Hid (Below w1.heap.size w1 v)→Hid (PF v sa Aa na ca sb Ab nb cb p q)→Hid (PF v sd Ad nd cd se Ae ne ce r s)→Hid (P2 33 v gx (.bool false) (.slice none 0 0))→Hid (w1.heap.size≤gx)→F 5 (Array.setIfInBounds L0 4 true) (Act.put a0 (some 5) (.pointer (some ⟨gx,0,none⟩))) v:=by
    intro gx v aA a_j b_j aC aH
    subst hF ha0 hL0
    simp only [PT] at cD cF ⊢
    have hHeld:=aB.out _ aA.out
    refine ryy [1,5] ?_
    refine .cons rfl (fun K hK=>?_) ?_
    go_simp
    go_at_call_of 90 (#[Value.agg #[.bool sa,.slice Aa na ca,.bool sb,.slice Ab nb cb]])
    refine (den_any p q sa sb Aa Ab na ca nb cb v (a_j.out) (by omega) aF.out.1).mono ?_
    rintro e v16 ⟨s4a,A4a,n4a,c4a,rfl,hr,hk⟩
    have N0_16:=hJ (hr)
    have bT:=hJ hk
    go_wp2_with fail
    have eF:=hJ (bt aA.out bT.out)
    have a_16:=hJ ((a_j.out).new bT.out)
    have b_16:=hJ ((b_j.out).new bT.out)
    have gW:=hJ (aC.out.new bT.out)
    clear hHeld
    refine hK.out _ _ (aB.out _ eF.out) (fun hHeld=>?_)
    clear hK K hk bT hr aA a_j b_j aC
    try simp only [PT]
    exact wpAnyH_cast (by kernel_rfl) (cD s4a A4a n4a c4a gx v16 eF a_16 b_16 N0_16 gW (hJ (aH.out)))
    refine .cons rfl (fun K hK=>?_) .nil
    go_simp
    have bM:=hJ ((Below.refl v.heap.size v).alloc (Nat.le_refl _) (.cells #[.bool false,.slice none 0 0] 33))
    have cW:=hJ (P2.lit v 33 (.bool false) (.slice none 0 0))
    obtain ⟨v17,hV⟩:=nmz (World.alloc v (.cells #[.bool false,.slice none 0 0] 33))
    obtain ⟨gy,hg⟩:=nmz (v.heap.size)
    rw [hV] at bM cW  ⊢
    rw [hg] at cW  ⊢
    have aM:=hJ (show w1.heap.size≤gy by rw [←hg]; exact aA.out.size)
    have bQ:=hJ (show gx≠gy by have:=aC.out.lt; rw [hg] at this; omega)
    have eG:=hJ (bt aA.out bM.out)
    have a_17:=hJ ((a_j.out).new bM.out)
    have b_17:=hJ ((b_j.out).new bM.out)
    have gX:=hJ (aC.out.new bM.out)
    clear hHeld
    refine hK.out _ _ (aB.out _ eG.out) (fun hHeld=>?_)
    clear hK K hV hg bM aA a_j b_j aC
    try simp only [PT]
    exact wpAnyH_cast (by kernel_rfl) (cF gx gy v17 eG a_17 b_17 gX (hJ (aH.out)) cW (hJ (aM.out)) (hJ (bQ.out)))
   have J5:∀ (gy:Nat) (v:World),Hid (Below w1.heap.size w1 v)→Hid (PF v sa Aa na ca sb Ab nb cb p q)→Hid (PF v sd Ad nd cd se Ae ne ce r s)→Hid (P2 33 v gy (.bool false) (.slice none 0 0))→Hid (w1.heap.size≤gy)→F 5 (Array.setIfInBounds L0 5 true) (Act.put a0 (some 6) (.pointer (some ⟨gy,0,none⟩))) v:=by
    intro gy v aA a_j b_j aD aI
    subst hF ha0 hL0
    simp only [PT] at cE cF ⊢
    have hHeld:=aB.out _ aA.out
    refine ryy [1,4] ?_
    refine .cons rfl (fun K hK=>?_) ?_
    go_simp
    go_at_call_of 90 (#[Value.agg #[.bool sa,.slice Aa na ca,.bool sb,.slice Ab nb cb]])
    refine (den_any p q sa sb Aa Ab na ca nb cb v (a_j.out) (by omega) aF.out.1).mono ?_
    rintro e v18 ⟨s4a,A4a,n4a,c4a,rfl,hr,hk⟩
    have N0_18:=hJ (hr)
    have bU:=hJ hk
    go_wp2_with fail
    have eH:=hJ (bt aA.out bU.out)
    have a_18:=hJ ((a_j.out).new bU.out)
    have b_18:=hJ ((b_j.out).new bU.out)
    have gY:=hJ (aD.out.new bU.out)
    clear hHeld
    refine hK.out _ _ (aB.out _ eH.out) (fun hHeld=>?_)
    clear hK K hk bU hr aA a_j b_j aD
    try simp only [PT]
    exact wpAnyH_cast (by kernel_rfl) (cE s4a A4a n4a c4a gy v18 eH a_18 b_18 N0_18 gY (hJ (aI.out)))
    refine .cons rfl (fun K hK=>?_) .nil
    go_simp
    have bN:=hJ ((Below.refl v.heap.size v).alloc (Nat.le_refl _) (.cells #[.bool false,.slice none 0 0] 33))
    have cX:=hJ (P2.lit v 33 (.bool false) (.slice none 0 0))
    obtain ⟨v19,hV⟩:=nmz (World.alloc v (.cells #[.bool false,.slice none 0 0] 33))
    obtain ⟨gx,hg⟩:=nmz (v.heap.size)
    rw [hV] at bN cX  ⊢
    rw [hg] at cX  ⊢
    have aN:=hJ (show w1.heap.size≤gx by rw [←hg]; exact aA.out.size)
    have bR:=hJ (show gy≠gx by have:=aD.out.lt; rw [hg] at this; omega)
    have eI:=hJ (bt aA.out bN.out)
    have a_19:=hJ ((a_j.out).new bN.out)
    have b_19:=hJ ((b_j.out).new bN.out)
    have gZ:=hJ (aD.out.new bN.out)
    clear hHeld
    refine hK.out _ _ (aB.out _ eI.out) (fun hHeld=>?_)
    clear hK K hV hg bN aA a_j b_j aD
    try simp only [PT]
    exact wpAnyH_cast (by kernel_rfl) (cF gx gy v19 eI a_19 b_19 cX (hJ (aN.out)) gZ (hJ (aI.out)) (hJ (bR.out.symm)))
   subst hF ha0 hL0
   simp only [PT] at J1 J4 J5
   refine ryy [1,4,5] ?_
   refine .cons rfl (fun K hK=>?_) ?_
   go_simp
   go_at_call_of 90 (#[Value.agg #[.bool sa,.slice Aa na ca,.bool sb,.slice Ab nb cb]])
   refine (den_any p q sa sb Aa Ab na ca nb cb v0 (a_0.out) (by omega) aF.out.1).mono ?_
   rintro e v20 ⟨s4a,A4a,n4a,c4a,rfl,hr,hk⟩
   have N0_20:=hJ (hr)
   have cG:=hJ hk
   go_wp2_with fail
   have eJ:=hJ (bt aL.out cG.out)
   have a_20:=hJ ((a_0.out).new cG.out)
   have b_20:=hJ ((b_0.out).new cG.out)
   clear hHeld
   refine hK.out _ _ (aB.out _ eJ.out) (fun hHeld=>?_)
   clear hK K hk cG hr aL a_0 b_0
   try simp only [PT]
   exact wpAnyH_cast (by kernel_rfl) (J1 s4a A4a n4a c4a v20 eJ a_20 b_20 N0_20)
   refine .cons rfl (fun K hK=>?_) ?_
   go_simp
   have bV:=hJ ((Below.refl v0.heap.size v0).alloc (Nat.le_refl _) (.cells #[.bool false,.slice none 0 0] 33))
   have cY:=hJ (P2.lit v0 33 (.bool false) (.slice none 0 0))
   obtain ⟨v21,hV⟩:=nmz (World.alloc v0 (.cells #[.bool false,.slice none 0 0] 33))
   obtain ⟨gx,hg⟩:=nmz (v0.heap.size)
   rw [hV] at bV cY  ⊢
   rw [hg] at cY  ⊢
   have aN:=hJ (show w1.heap.size≤gx by rw [←hg]; exact aL.out.size)
   have eK:=hJ (bt aL.out bV.out)
   have a_21:=hJ ((a_0.out).new bV.out)
   have b_21:=hJ ((b_0.out).new bV.out)
   clear hHeld
   refine hK.out _ _ (aB.out _ eK.out) (fun hHeld=>?_)
   clear hK K hV hg bV aL a_0 b_0
   try simp only [PT]
   exact wpAnyH_cast (by kernel_rfl) (J4 gx v21 eK a_21 b_21 cY (hJ (aN.out)))
   refine .cons rfl (fun K hK=>?_) .nil
   go_simp
   have bW:=hJ ((Below.refl v0.heap.size v0).alloc (Nat.le_refl _) (.cells #[.bool false,.slice none 0 0] 33))
   have cZ:=hJ (P2.lit v0 33 (.bool false) (.slice none 0 0))
   obtain ⟨v22,hV⟩:=nmz (World.alloc v0 (.cells #[.bool false,.slice none 0 0] 33))
   obtain ⟨gy,hg⟩:=nmz (v0.heap.size)
   rw [hV] at bW cZ  ⊢
   rw [hg] at cZ  ⊢
   have aM:=hJ (show w1.heap.size≤gy by rw [←hg]; exact aL.out.size)
   have eL:=hJ (bt aL.out bW.out)
   have a_22:=hJ ((a_0.out).new bW.out)
   have b_22:=hJ ((b_0.out).new bW.out)
   clear hHeld
   refine hK.out _ _ (aB.out _ eL.out) (fun hHeld=>?_)
   clear hK K hV hg bW aL a_0 b_0
   try simp only [PT]
   exact wpAnyH_cast (by kernel_rfl) (J5 gy v22 eL a_22 b_22 cZ (hJ (aM.out)))
  case rest =>
   obtain ⟨G4,H4,s4a,A4a,n4a,c4a,s4b,A4b,n4b,c4b,rfl,rfl,hq1,hq2,hr1,hr2,hbx⟩:=hcut
   have eM:=hJ hq1
   have dA:=hJ hq2
   have dB:=hJ hr1
   have cH:=hJ hr2
   have bO:=hJ hbx
   obtain ⟨x4,rfl⟩:=nm_world hbx
   clear hq1 hq2 hr1 hr2 hbx aB dN
   have hn4a:n4a≤512:=plim dB.out aF.out.2.2.2.1
   have hn4b:n4b≤512:=plim cH.out aF.out.2.2.2.2.2
   have dD:=hJ (aT.out.new bO.out)
   have eN:=hJ (bZ.out.new bO.out)
   have eO:=hJ (aU.out.new bO.out)
   have eP:=hJ (cA.out.new bO.out)
   have eQ:=hJ (bt cM.out bO.out)
   clear aT bZ aU cA cM bO
   obtain ⟨cla0_4,cla1_4,cla2_4,cla3_4⟩:=dD.out.cells
   obtain ⟨cls0_5,cls1_5⟩:=dA.out.cells
   obtain ⟨x5,dE⟩:=nmz (x4.alloc (.cells #[.bool s4b,.slice A4b n4b c4b] 33))
   have aR:=hJ (show Below x4.heap.size x4 x5 by rw [←dE]; exact (Below.refl _ _).alloc (Nat.le_refl _) _)
   have eR:=hJ (show Pel x5 x4.heap.size [s]∧x4.heap.size < x5.heap.size by rw [←dE]; exact ⟨pel_lit1 cH.out aF.out.2.2.2.2.2,by simp⟩)
   have eS:=hJ (dD.out.new aR.out)
   have dF:=hJ (eN.out.new aR.out)
   have eT:=hJ (eO.out.new aR.out)
   have eU:=hJ (eP.out.new aR.out)
   have eV:=hJ (eM.out.new aR.out)
   have eW:=hJ (PIo.new dB.out aR.out)
   have eX:=hJ (dA.out.new aR.out)
   have eY:=hJ (PIo.new cH.out aR.out)
   have eZ:=hJ (bt eQ.out aR.out)
   clear dD eN eO eP eM dB dA cH eQ aR
   go_wp2_with fail
   refine (fproduct_any [s] p sa Aa na ca x4.heap.size 1 x5 dF.out.1 aF.out.2.2.1 eR.out.1 eR.out.2 rfl (by decide)).mono ?_
   rw [(pv_one p s).1,(pv_one p s).2]
   rintro e w6 ⟨s6,A6,n6,c6,rfl,hr6,hb6⟩
   obtain ⟨x6,cI⟩:=nmz (w6.alloc (.cells #[.bool s6,.slice A6 n6 c6] 33))
   have aS:=hJ (show Below x5.heap.size x5 x6 by rw [←cI]; exact hb6.alloc hb6.size _)
   have fA:=hJ (show P2 33 x6 w6.heap.size (.bool s6) (.slice A6 n6 c6) by rw [←cI]; exact P2.lit _ _ _ _)
   have fB:=hJ (show PI x6 s6 A6 n6 c6 (outV (p*s)) by rw [←cI]; exact PIo.new hr6 ((Below.refl _ _).alloc (Nat.le_refl _) _))
   have hn6:n6≤512:=plim hr6 (outV_lim _)
   clear hr6 hb6
   have fC:=hJ (eS.out.new aS.out)
   have fD:=hJ (dF.out.new aS.out)
   have dG:=hJ (eT.out.new aS.out)
   have fE:=hJ (eU.out.new aS.out)
   have dH:=hJ (eV.out.new aS.out)
   have dI:=hJ (PIo.new eW.out aS.out)
   have fF:=hJ (eX.out.new aS.out)
   have fG:=hJ (PIo.new eY.out aS.out)
   have fH:=hJ (bt eZ.out aS.out)
   clear eS dF eT eU eV eW eX eY eZ cla0_4 cla1_4 cla2_4 cla3_4 cls0_5 cls1_5 dE aS
   obtain ⟨clb0_6,clb1_6,clb2_6,clb3_6⟩:=dG.out.cells
   obtain ⟨clq0_7,clq1_7⟩:=dH.out.cells
   obtain ⟨x7,dJ⟩:=nmz (x6.alloc (.cells #[.bool s4a,.slice A4a n4a c4a] 33))
   have aJ:=hJ (show Below x6.heap.size x6 x7 by rw [←dJ]; exact (Below.refl _ _).alloc (Nat.le_refl _) _)
   have fI:=hJ (show Pel x7 x6.heap.size [q]∧x6.heap.size < x7.heap.size by rw [←dJ]; exact ⟨pel_lit1 dI.out aF.out.2.2.2.1,by simp⟩)
   have fJ:=hJ (fC.out.new aJ.out)
   have fK:=hJ (fD.out.new aJ.out)
   have fL:=hJ (dG.out.new aJ.out)
   have dK:=hJ (fE.out.new aJ.out)
   have fM:=hJ (dH.out.new aJ.out)
   have fN:=hJ (PIo.new dI.out aJ.out)
   have fO:=hJ (fF.out.new aJ.out)
   have fP:=hJ (PIo.new fG.out aJ.out)
   have fQ:=hJ (fA.out.new aJ.out)
   have fR:=hJ (PIo.new fB.out aJ.out)
   have fS:=hJ (bt fH.out aJ.out)
   clear fC fD dG fE dH dI fF fG fA fB fH aJ
   go_wp2_with fail
   refine (fproduct_any [q] r sd Ad nd cd x6.heap.size 1 x7 dK.out.1 aF.out.2.2.2.2.1 fI.out.1 fI.out.2 rfl (by decide)).mono ?_
   rw [(pv_one r q).1,(pv_one r q).2]
   rintro e w8 ⟨s8,A8,n8,c8,rfl,hr8,hb8⟩
   obtain ⟨x8,dL⟩:=nmz (w8.alloc (.cells #[.bool s8,.slice A8 n8 c8] 33))
   have aK:=hJ (show Below x7.heap.size x7 x8 by rw [←dL]; exact hb8.alloc hb8.size _)
   have fT:=hJ (show P2 33 x8 w8.heap.size (.bool s8) (.slice A8 n8 c8) by rw [←dL]; exact P2.lit _ _ _ _)
   have fU:=hJ (show PI x8 s8 A8 n8 c8 (outV (r*q)) by rw [←dL]; exact PIo.new hr8 ((Below.refl _ _).alloc (Nat.le_refl _) _))
   have hn8:n8≤512:=plim hr8 (outV_lim _)
   clear hr8 hb8
   have fV:=hJ (fJ.out.new aK.out)
   have fW:=hJ (fK.out.new aK.out)
   have fX:=hJ (fL.out.new aK.out)
   have fY:=hJ (dK.out.new aK.out)
   have fZ:=hJ (fM.out.new aK.out)
   have gA:=hJ (PIo.new fN.out aK.out)
   have gB:=hJ (fO.out.new aK.out)
   have gC:=hJ (PIo.new fP.out aK.out)
   have gD:=hJ (fQ.out.new aK.out)
   have gE:=hJ (PIo.new fR.out aK.out)
   have gF:=hJ (bt fS.out aK.out)
   clear fJ fK fL dK fM fN fO fP fQ fR fS cI clb0_6 clb1_6 clb2_6 clb3_6 clq0_7 clq1_7 dJ aK
   obtain ⟨x9,gG⟩:=nmz (x8.alloc (.cells #[.int .i64 (outC (p*s)),.int .i64 (outC (r*q))] 40))
   have aG:=hJ (show Below x8.heap.size x8 x9 by rw [←gG]; exact (Below.refl _ _).alloc (Nat.le_refl _) _)
   have hA:=hJ (show Codes x9 x8.heap.size [outC (p*s),outC (r*q)] by rw [←gG]; exact codes_lit2 _ _)
   have hB:=hJ (fV.out.new aG.out)
   have hC:=hJ (fW.out.new aG.out)
   have hD:=hJ (fX.out.new aG.out)
   have hE:=hJ (fY.out.new aG.out)
   have hG:=hJ (fZ.out.new aG.out)
   have hH:=hJ (PIo.new gA.out aG.out)
   have hI:=hJ (gB.out.new aG.out)
   have hL:=hJ (PIo.new gC.out aG.out)
   have hM:=hJ (gD.out.new aG.out)
   have hN:=hJ (PIo.new gE.out aG.out)
   have hO:=hJ (fT.out.new aG.out)
   have hP:=hJ (PIo.new fU.out aG.out)
   have gH:=hJ (bt gF.out aG.out)
   clear fV fW fX fY fZ gA gB gC gD gE fT fU gF aG
   go_wp2_with fail
   refine (ferror_any [outC (p*s),outC (r*q)] x8.heap.size 2 x9 hA.out rfl (by decide)).mono ?_
   have dM:=hJ (two_codes (p*s) (r*q))
   obtain ⟨u,hu⟩:∃ u,feV [outC (p*s),outC (r*q)]=u:=⟨_,rfl⟩
   rw [hu] at dM ⊢
   clear hu
   rintro e w' ⟨rfl,rfl⟩
   by_cases hu:u=0
   ·have HE:=hJ (dM.out hu)
    subst hu
    obtain ⟨clleft0_10,clleft1_10⟩:=hM.out.cells
    obtain ⟨clright0_10,clright1_10⟩:=hO.out.cells
    go_wp2_with fail
    refine (pcompare_any (p*s) (r*q) s6 s8 A6 A8 n6 c6 n8 c8 x9 (PIo.eq hN.out HE.out.1) (PIo.eq hP.out HE.out.2) (by omega) (by omega)).mono ?_
    rintro e w2 ⟨rfl,hb2⟩
    have bP:=hJ (bt gH.out hb2)
    clear hb2
    go_wp2
    go_ret
    exact ⟨rfl,bP.out⟩
   ·have hub:(u == 0)=false:=by simp [hu]
    clear hu dM
    obtain ⟨cla0_11,cla1_11,cla2_11,cla3_11⟩:=hB.out.cells
    obtain ⟨clb0_11,clb1_11,clb2_11,clb3_11⟩:=hD.out.cells
    obtain ⟨clq0_11,clq1_11⟩:=hG.out.cells
    obtain ⟨cls0_11,cls1_11⟩:=hI.out.cells
    go_wp2_with fail
    refine (fparts_any p q r s sa s4a sd s4b Aa A4a Ad A4b na ca n4a c4a nd cd n4b c4b x9 hC.out.1 hH.out hE.out.1 hL.out aF.out.1 aF.out.2.1 aF.out.2.2.1 aF.out.2.2.2.1 aF.out.2.2.2.2.1 aF.out.2.2.2.2.2).mono ?_
    rintro e w2 ⟨rfl,hb2⟩
    have bP:=hJ (bt gH.out hb2)
    clear hb2
    go_wp2
    go_ret
    exact ⟨rfl,bP.out⟩

end Go.Proofs.YtagakcficjcfhaaGreat
