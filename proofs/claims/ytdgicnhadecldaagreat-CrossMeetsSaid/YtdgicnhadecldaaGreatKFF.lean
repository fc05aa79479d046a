/- Contracts of the program's fractions: compareByParts. Conditions: as each statement has them. -/
import Derived.Test.YtdgicnhadecldaaGreatKFD
import Derived.Deep.RegionHeld3
import Derived.Deep.LoopGhost
import Derived.Deep.DeepCutAuto
namespace Go.Proofs.YtdgicnhadecldaaGreat
set_option maxRecDepth 100000
set_option maxHeartbeats 12800000
open Go.RowKit
attribute [local go_sem ↓] Go.wp_at_zero Go.wp_at_succ
theorem quot_lt {P Q R S:Int} (hQ:0 < Q) (hS:0 < S) (h:P / Q < R / S):P*S < R*Q:=by
 have e1:P < (P / Q+1)*Q:=Int.lt_ediv_add_one_mul_self P hQ
 have e2:R / S*S≤R:=Int.ediv_mul_le R (by omega)
 have e3:(P / Q+1)*Q≤R / S*Q:=Int.mul_le_mul_of_nonneg_right (by omega) (by omega)
 have e4:P*S < R / S*Q*S:=Int.mul_lt_mul_of_pos_right (by omega) hS
 have e5:R / S*Q*S=R / S*S*Q:=by rw [Int.mul_assoc,Int.mul_comm Q S,←Int.mul_assoc]
 have e6:R / S*S*Q≤R*Q:=Int.mul_le_mul_of_nonneg_right e2 (by omega)
 omega
theorem cmp_quot_ne {P Q R S:Int} (hQ:0 < Q) (hS:0 < S) (h:cmpI (P / Q) (R / S)≠0):cmpI (P*S) (R*Q)=cmpI (P / Q) (R / S):=by
 rcases Int.lt_trichotomy (P / Q) (R / S) with h1 | h1 | h1
 ·rw [cmpI_lt' h1,cmpI_lt' (quot_lt hQ hS h1)]
 ·exact absurd (cmpI_same h1) h
 ·rw [cmpI_gt' h1,cmpI_gt' (quot_lt hS hQ h1)]
theorem cmp_quot_eq {P Q R S:Int} (h:cmpI (P / Q) (R / S)=0):cmpI (P*S) (R*Q)=cmpI (P % Q*S) (R % S*Q):=by
 have he:P / Q=R / S:=by
  rcases Int.lt_trichotomy (P / Q) (R / S) with h1 | h1 | h1
  ·rw [cmpI_lt' h1] at h; omega
  ·exact h1
  rw [cmpI_gt' h1] at h; omega
 have e1:P*S=Q*(P / Q)*S+P % Q*S:=by rw [←Int.add_mul,Int.mul_ediv_add_emod]
 have e2:R*Q=S*(R / S)*Q+R % S*Q:=by rw [←Int.add_mul,Int.mul_ediv_add_emod]
 have e3:S*(R / S)*Q=Q*(P / Q)*S:=by rw [he,Int.mul_comm S,Int.mul_comm Q,Int.mul_assoc,Int.mul_assoc,Int.mul_comm S Q]
 rw [e1,e2,e3,cmpI_add]
theorem cmp_sign {a b Q S:Int} (hQ:0 < Q) (hS:0 < S) (ha:0≤a) (hb:0≤b) (h:a=0∨b=0):cmpI (a*S) (b*Q)=cmpI (cmpI a 0) (cmpI b 0):=by
 rcases Int.lt_or_eq_of_le ha with ha | ha
 ·rcases h with h | h
  ·omega
  subst h
  have:=Int.mul_pos ha hS
  rw [Int.zero_mul,cmpI_gt' this,cmpI_gt' ha]; rfl
 ·subst ha
  rcases Int.lt_or_eq_of_le hb with hb | hb
  ·have:=Int.mul_pos hb hQ
   rw [Int.zero_mul,cmpI_lt' this,cmpI_gt' hb]; rfl
  ·subst hb
   rw [Int.zero_mul,Int.zero_mul]; rfl
theorem cmpI_cases (a b:Int):(a < b∧cmpI a b = -1)∨(a=b∧cmpI a b=0)∨(b < a∧cmpI a b=1):=by
 rcases Int.lt_trichotomy a b with h | h | h
 ·exact .inl ⟨h,cmpI_lt' h⟩
 ·exact .inr (.inl ⟨h,cmpI_same h⟩)
 ·exact .inr (.inr ⟨h,cmpI_gt' h⟩)
theorem fparts_any (p q r s:Int) (sa sb sd se:Bool) (Aa Ab Ad Ae:Option Addr) (na ca nb cb nd cd ne ce:Nat) (w:World) (hx:PI w sa Aa na ca p) (hy:PI w sb Ab nb cb q) (hz:PI w sd Ad nd cd r) (hv:PI w se Ae ne ce s) (hq:0 < q) (hs:0 < s) (hlp:p.natAbs < lim) (hlq:q.natAbs < lim) (hlr:r.natAbs < lim) (hls:s.natAbs < lim) :
  Calls Tryz.prog 93 #[.agg #[.bool sa,.slice Aa na ca],.agg #[.bool sb,.slice Ab nb cb],.agg #[.bool sd,.slice Ad nd cd],.agg #[.bool se,.slice Ae ne ce]] w fun e w'=>e=.returned (.int .i64 (cmpI (p*s) (r*q)))∧Below w.heap.size w w':=by
 obtain ⟨W,hW⟩:∃ W,(((w.alloc (.cells #[.bool sa,.slice Aa na ca] 33)).alloc (.cells #[.bool sb,.slice Ab nb cb] 33)).alloc (.cells #[.bool sd,.slice Ad nd cd] 33)).alloc (.cells #[.bool se,.slice Ae ne ce] 33)=W:=⟨_,rfl⟩
 have HK:=hJ (show Below w.heap.size w W by rw [←hW]; exact (((((Below.refl _ w).alloc (Nat.le_refl _) _).alloc (by simp) _).alloc (by simp; omega) _).alloc (by simp; omega) _))
 have aT:=hJ (show P2 33 W w.heap.size (.bool sa) (.slice Aa na ca) by rw [←hW]; exact ((W3_a _ w _ _ _ _ _ _).alloc _))
 have aU:=hJ (show P2 33 W (w.heap.size+1) (.bool sb) (.slice Ab nb cb) by rw [←hW]; exact ((W3_b _ w _ _ _ _ _ _).alloc _))
 have aZ:=hJ (show P2 33 W (w.heap.size+1+1) (.bool sd) (.slice Ad nd cd) by rw [←hW]; exact ((W3_z _ w _ _ _ _ _ _).alloc _))
 have aV:=hJ (show P2 33 W (w.heap.size+1+1+1) (.bool se) (.slice Ae ne ce) by
  rw [←hW]
  have h0:=P2.lit (((w.alloc (.cells #[.bool sa,.slice Aa na ca] 33)).alloc (.cells #[.bool sb,.slice Ab nb cb] 33)).alloc (.cells #[.bool sd,.slice Ad nd cd] 33)) 33 (.bool se) (.slice Ae ne ce)
  rw [World.size_alloc,World.size_alloc,World.size_alloc] at h0
  exact h0)
 have bA:=hJ (PIo.new hx HK.out)
 have bB:=hJ (PIo.new hy HK.out)
 have bG:=hJ (PIo.new hz HK.out)
 have bH:=hJ (PIo.new hv HK.out)
 obtain ⟨h,hh⟩:∃ h,w.heap.size=h:=⟨_,rfl⟩
 have HH:=hJ hh
 rw [hh] at aT aU aZ aV
 have cY:=hJ (And.intro hq (And.intro hs (And.intro hlp (And.intro hlq (And.intro hlr hls)))))
 clear hx hy hz hv hq hs hlp hlq hlr hls
 go_enter Tryz.func93,Tryz.ntmps93
 go_wp2_with fail
 clear hW hh
 go_loopg [8] (q.natAbs+s.natAbs) (fun g v wr=>∃ (P Q R S:Int) (sa sb sd se:Bool) (Aa Ab Ad Ae:Option Addr) (na nb nd ne ca cb cd ce:Nat),Q.natAbs+S.natAbs=g∧P2 33 wr h (.bool sa) (.slice Aa na ca)∧P2 33 wr (h+1) (.bool sb) (.slice Ab nb cb)∧P2 33 wr (h+1+1) (.bool sd) (.slice Ad nd cd)∧P2 33 wr (h+1+1+1) (.bool se) (.slice Ae ne ce)∧PI wr sa Aa na ca P∧PI wr sb Ab nb cb Q∧PI wr sd Ad nd cd R∧PI wr se Ae ne ce S∧(0 < Q∧0 < S∧P.natAbs < lim∧Q.natAbs < lim∧R.natAbs < lim∧S.natAbs < lim)∧cmpI (P*S) (R*Q)=cmpI (p*s) (r*q)∧Below w.heap.size w wr)
 case atStart=>exact ⟨p,q,r,s,sa,sb,sd,se,Aa,Ab,Ad,Ae,na,nb,nd,ne,ca,cb,cd,ce,rfl,aT.out,aU.out,aZ.out,aV.out,bA.out,bB.out,bG.out,bH.out,cY.out,rfl,HK.out⟩
 case round =>
  clear aT aU aZ aV bA bB bG bH cY HK
  obtain ⟨P,Q,R,S,sa,sb,sd,se,Aa,Ab,Ad,Ae,na,nb,nd,ne,ca,cb,cd,ce,hg,hpa,hpb,hpd,hpe,hra,hrb,hrd,hre,hl,hc,hbel⟩:=hrel
  have HG:=hJ hg
  have HL:=hJ hl
  have HC:=hJ hc
  have HB:=hJ hbel
  have hna:=plim hra hl.2.2.1
  have hnb:=plim hrb hl.2.2.2.1
  have hnd:=plim hrd hl.2.2.2.2.1
  have hne:=plim hre hl.2.2.2.2.2
  have aT:=hJ hpa
  have aU:=hJ hpb
  have aZ:=hJ hpd
  have aV:=hJ hpe
  have bA:=hJ hra
  have bB:=hJ hrb
  have bG:=hJ hrd
  have bH:=hJ hre
  clear hg hpa hpb hpd hpe hra hrb hrd hre hl hc hbel
  obtain ⟨a0,a1⟩:=aT.out.cells
  obtain ⟨b0,b1⟩:=aU.out.cells
  go_wp2_with fail
  refine (pdiv_any P Q sa sb Aa Ab na ca nb cb wr bA.out bB.out (by omega) (by omega) (by have:=HL.out.1; omega)).mono ?_
  have aW:=hJ (show 0≤P % Q∧P % Q < Q from ⟨Int.emod_nonneg _ (by have:=HL.out.1; omega),Int.emod_lt_of_pos _ HL.out.1⟩)
  have cZ:=hJ (show (P / Q).natAbs < lim from Nat.lt_of_le_of_lt (Int.natAbs_ediv_le_natAbs _ _) HL.out.2.2.1)
  have aX:=hJ (show 0≤R % S∧R % S < S from ⟨Int.emod_nonneg _ (by have:=HL.out.2.1; omega),Int.emod_lt_of_pos _ HL.out.2.1⟩)
  have dA:=hJ (show (R / S).natAbs < lim from Nat.lt_of_le_of_lt (Int.natAbs_ediv_le_natAbs _ _) HL.out.2.2.2.2.1)
  have bC:=hJ (fun h:cmpI (P / Q) (R / S)≠0=>(cmp_quot_ne HL.out.1 HL.out.2.1 h).symm.trans HC.out)
  have aS:=hJ (fun h:cmpI (P / Q) (R / S)=0=>(cmp_quot_eq h).symm.trans HC.out)
  obtain ⟨X,hX⟩:∃ X,P / Q=X:=⟨_,rfl⟩
  obtain ⟨x,hx⟩:∃ X,P % Q=X:=⟨_,rfl⟩
  obtain ⟨Y,hY⟩:∃ X,R / S=X:=⟨_,rfl⟩
  obtain ⟨y,hy⟩:∃ X,R % S=X:=⟨_,rfl⟩
  have dB:=hJ (And.intro hX (And.intro hx (And.intro hY hy)))
  rw [hX] at cZ bC aS
  rw [hY] at dA bC aS
  rw [hx] at aW aS
  rw [hy] at aX aS
  rw [hX,hx]
  clear hX hx hY hy
  rintro e w1 ⟨sf,Af,nf,cf,sg,Ag,ng,cg,rfl,hr1,hr2,hb1⟩
  obtain ⟨x1,hy1⟩:∃ x,W2 33 w1 (.bool sf) (.slice Af nf cf) (.bool sg) (.slice Ag ng cg)=x:=⟨_,rfl⟩
  have fY:(w1.alloc (.cells #[.bool sf,.slice Af nf cf] 33)).alloc (.cells #[.bool sg,.slice Ag ng cg] 33)=x1:=hy1
  have aA:=hJ (show Below wr.heap.size wr x1 by rw [←hy1]; exact bt hb1 (W2_k _ _ _ _ _ _))
  have cI:=hJ (show P2 33 x1 w1.heap.size (.bool sf) (.slice Af nf cf) by rw [←hy1]; exact W2_a _ _ _ _ _ _)
  have bL:=hJ (show P2 33 x1 (w1.heap.size+1) (.bool sg) (.slice Ag ng cg) by rw [←hy1]; exact W2_z _ _ _ _ _ _)
  have dD:=hJ (show PI x1 sf Af nf cf X by rw [←hy1]; exact PIo.new hr1 (W2_k _ _ _ _ _ _))
  have dE:=hJ (show PI x1 sg Ag ng cg x by rw [←hy1]; exact PIo.new hr2 (W2_k _ _ _ _ _ _))
  obtain ⟨g1,hg1⟩:∃ g,w1.heap.size=g:=⟨_,rfl⟩
  have fZ:=hJ (show wr.heap.size≤g1 by rw [←hg1]; exact hb1.size)
  rw [hg1] at cI bL
  clear hr1 hr2 hb1 hy1
  have aB:=hJ (show h+1+1+1 < g1 by have h1:=aV.out.lt; have h2:=fZ.out; omega)
  have dG:=hJ (aT.out.new aA.out)
  have dH:=hJ (PIo.new bA.out aA.out)
  have dI:=hJ (aU.out.new aA.out)
  have dJ:=hJ (PIo.new bB.out aA.out)
  have cJ:=hJ (aZ.out.new aA.out)
  have cK:=hJ (PIo.new bG.out aA.out)
  have cL:=hJ (aV.out.new aA.out)
  have cM:=hJ (PIo.new bH.out aA.out)
  have dK:=hJ (bt HB.out aA.out)
  clear aT bA aU bB aZ bG aV bH HB aA
  clear a0 a1 b0 b1
  obtain ⟨d0,d1⟩:=cJ.out.cells
  obtain ⟨e0,e1⟩:=cL.out.cells
  go_wp2_with fail
  clear fY hg1
  refine (pdiv_any R S sd se Ad Ae nd cd ne ce x1 cK.out cM.out (by omega) (by omega) (by have:=HL.out.2.1; omega)).mono ?_
  rw [dB.out.2.2.1,dB.out.2.2.2]
  rintro e w2 ⟨si,Ai,ni,ci,sj,Aj,nj,cj,rfl,hr1,hr2,hb1⟩
  obtain ⟨x2,hy2⟩:∃ x,W2 33 w2 (.bool si) (.slice Ai ni ci) (.bool sj) (.slice Aj nj cj)=x:=⟨_,rfl⟩
  have gA:(w2.alloc (.cells #[.bool si,.slice Ai ni ci] 33)).alloc (.cells #[.bool sj,.slice Aj nj cj] 33)=x2:=hy2
  have aA:=hJ (show Below x1.heap.size x1 x2 by rw [←hy2]; exact bt hb1 (W2_k _ _ _ _ _ _))
  have bM:=hJ (show P2 33 x2 w2.heap.size (.bool si) (.slice Ai ni ci) by rw [←hy2]; exact W2_a _ _ _ _ _ _)
  have cN:=hJ (show P2 33 x2 (w2.heap.size+1) (.bool sj) (.slice Aj nj cj) by rw [←hy2]; exact W2_z _ _ _ _ _ _)
  have bN:=hJ (show PI x2 si Ai ni ci Y by rw [←hy2]; exact PIo.new hr1 (W2_k _ _ _ _ _ _))
  have dL:=hJ (show PI x2 sj Aj nj cj y by rw [←hy2]; exact PIo.new hr2 (W2_k _ _ _ _ _ _))
  obtain ⟨g2,hg2⟩:∃ g,w2.heap.size=g:=⟨_,rfl⟩
  have gB:=hJ (show x1.heap.size≤g2 by rw [←hg2]; exact hb1.size)
  rw [hg2] at bM cN
  clear hr1 hr2 hb1 hy2
  have aC:=hJ (show g1+1 < g2 by have h1:=bL.out.lt; have h2:=gB.out; omega)
  have dM:=hJ (dG.out.new aA.out)
  have dN:=hJ (PIo.new dH.out aA.out)
  have dO:=hJ (dI.out.new aA.out)
  have dP:=hJ (PIo.new dJ.out aA.out)
  have dQ:=hJ (cJ.out.new aA.out)
  have dR:=hJ (PIo.new cK.out aA.out)
  have dS:=hJ (cL.out.new aA.out)
  have dT:=hJ (PIo.new cM.out aA.out)
  have dU:=hJ (bt dK.out aA.out)
  have cO:=hJ (cI.out.new aA.out)
  have dW:=hJ (bL.out.new aA.out)
  have bO:=hJ (PIo.new dD.out aA.out)
  have dX:=hJ (PIo.new dE.out aA.out)
  clear dG dH dI dJ cJ cK cL cM dK cI bL dD dE aA
  clear d0 d1 e0 e1
  obtain ⟨f0,f1⟩:=cO.out.cells
  obtain ⟨i0,i1⟩:=bM.out.cells
  go_wp2_with fail
  clear gA hg2
  refine (pcompare_any X Y sf si Af Ai nf cf ni ci x2 bO.out bN.out (by have:=plim bO.out cZ.out; omega) (by have:=plim bN.out dA.out; omega)).mono ?_
  obtain ⟨u,hu⟩:∃ u,cmpI X Y=u:=⟨_,rfl⟩
  rw [hu] at bC aS ⊢
  clear hu
  rintro e w3 ⟨rfl,hb3⟩
  have aA:=hJ hb3
  clear hb3 f0 f1 i0 i1
  have dY:=hJ (dM.out.new aA.out)
  have dZ:=hJ (PIo.new dN.out aA.out)
  have eA:=hJ (dO.out.new aA.out)
  have eB:=hJ (PIo.new dP.out aA.out)
  have eC:=hJ (dQ.out.new aA.out)
  have eD:=hJ (PIo.new dR.out aA.out)
  have eE:=hJ (dS.out.new aA.out)
  have eF:=hJ (PIo.new dT.out aA.out)
  have cP:=hJ (bt dU.out aA.out)
  have eG:=hJ (cO.out.new aA.out)
  have cQ:=hJ (dW.out.new aA.out)
  have eH:=hJ (PIo.new bO.out aA.out)
  have bP:=hJ (PIo.new dX.out aA.out)
  have eI:=hJ (bM.out.new aA.out)
  have eJ:=hJ (cN.out.new aA.out)
  have eK:=hJ (PIo.new bN.out aA.out)
  have cR:=hJ (PIo.new dL.out aA.out)
  clear dM dN dO dP dQ dR dS dT dU cO dW bO dX bM cN bN dL aA
  by_cases hu:u=0
  ·subst hu
   have bJ:=hJ (aS.out rfl)
   clear aS bC
   obtain ⟨g0,g1⟩:=cQ.out.cells
   go_wp2_with fail
   have hxl:x.natAbs < lim:=by have:=aW.out; have:=HL.out.2.2.2.1; omega
   have hyl:y.natAbs < lim:=by have:=aX.out; have:=HL.out.2.2.2.2.2; omega
   have hnx:=plim bP.out hxl
   have hny:=plim cR.out hyl
   have eL:=hJ (And.intro hxl hyl)
   clear hxl hyl
   refine (sign_any x sg Ag ng cg w3 bP.out (by omega)).mono ?_
   obtain ⟨a,ha⟩:∃ a,cmpI x 0=a:=⟨_,rfl⟩
   have HA:=hJ ha
   rw [ha]
   clear ha
   rintro e w4 ⟨rfl,hb4⟩
   have aA:=hJ hb4
   clear hb4 g0 g1
   have eM:=hJ (dY.out.new aA.out)
   have gC:=hJ (PIo.new dZ.out aA.out)
   have eN:=hJ (eA.out.new aA.out)
   have eO:=hJ (PIo.new eB.out aA.out)
   have eP:=hJ (eC.out.new aA.out)
   have gD:=hJ (PIo.new eD.out aA.out)
   have eQ:=hJ (eE.out.new aA.out)
   have eR:=hJ (PIo.new eF.out aA.out)
   have cS:=hJ (bt cP.out aA.out)
   have gE:=hJ (eG.out.new aA.out)
   have bQ:=hJ (cQ.out.new aA.out)
   have gF:=hJ (PIo.new eH.out aA.out)
   have cT:=hJ (PIo.new bP.out aA.out)
   have gG:=hJ (eI.out.new aA.out)
   have bK:=hJ (eJ.out.new aA.out)
   have gH:=hJ (PIo.new eK.out aA.out)
   have bS:=hJ (PIo.new cR.out aA.out)
   clear dY dZ eA eB eC eD eE eF cP eG cQ eH bP eI eJ eK cR aA
   by_cases bD:x=0
   ·have ha0:a=0:=by rw [←HA.out,bD]; rfl
    have cU:=hJ (show x=0∨y=0 from .inl bD)
    subst ha0
    clear bD
    have aY:=hJ (show cmpI (cmpI x 0) (cmpI y 0)=cmpI (p*s) (r*q) by rw [←cmp_sign HL.out.1 HL.out.2.1 aW.out.1 aX.out.1 cU.out]; exact bJ.out)
    let T:=fun w':World=>w'.cell? ⟨g1+1,0,none⟩=some (.bool sg)∧w'.cell? ⟨g1+1,1,none⟩=some (.slice Ag ng cg)∧w'.cell? ⟨g2+1,0,none⟩=some (.bool sj)∧w'.cell? ⟨g2+1,1,none⟩=some (.slice Aj nj cj)∧Below w4.heap.size w4 w'
    have K0:Hid (∀ w',Below w4.heap.size w4 w'→T w'):=hJ (fun w' hb=>⟨(bQ.out.new hb).cells.1,(bQ.out.new hb).cells.2,(bK.out.new hb).cells.1,(bK.out.new hb).cells.2,hb⟩)
    have K1:Hid (∀ w',T w'→Calls Tryz.prog 104 #[.agg #[.bool sg,.slice Ag ng cg]] w' fun e w''=>e=.returned (.int .i64 (cmpI x 0))∧T w'') :=
     hJ (fun w' h=>(sign_any x sg Ag ng cg w' (PIo.new cT.out h.2.2.2.2) (by omega)).mono (fun e w'' ⟨he,hb⟩=>⟨he,K0.out _ (bt h.2.2.2.2 hb)⟩))
    have K2:Hid (∀ w',T w'→Calls Tryz.prog 104 #[.agg #[.bool sj,.slice Aj nj cj]] w' fun e w''=>e=.returned (.int .i64 (cmpI y 0))∧T w'') :=
     hJ (fun w' h=>(sign_any y sj Aj nj cj w' (PIo.new bS.out h.2.2.2.2) (by omega)).mono (fun e w'' ⟨he,hb⟩=>⟨he,K0.out _ (bt h.2.2.2.2 hb)⟩))
    obtain ⟨a',ha'⟩:∃ a,cmpI x 0=a:=⟨_,rfl⟩
    obtain ⟨b',hb'⟩:∃ a,cmpI y 0=a:=⟨_,rfl⟩
    rw [ha'] at aY K1
    rw [hb'] at aY K2
    clear ha' hb'
    have K3:Hid (∀ w',Calls Tryz.prog 106 #[.int .i64 a',.int .i64 b'] w' fun e w''=>e=.returned (.int .i64 (cmpI a' b'))∧w'=w''):=hJ (fun w'=>cmpi_any a' b' (cmpI a' b') w' (cmpI_cases a' b'))
    have bR:=K0.out _ (Below.refl w4.heap.size w4).drew
    go_wp2_with fail
    go_region_held3 (fun w'=>w'.cell? ⟨g1+1,0,none⟩=some (.bool sg)∧w'.cell? ⟨g1+1,1,none⟩=some (.slice Ag ng cg)∧w'.cell? ⟨g2+1,0,none⟩=some (.bool sj)∧w'.cell? ⟨g2+1,1,none⟩=some (.slice Aj nj cj)∧Below w4.heap.size w4 w') (first | assumption | exact bR | go_keep)
     (first | (go_at_call_of 104 (Value.agg #[.bool sg,.slice Ag ng cg]); refine (K1.out _ ?_).mono ?_; assumption; rintro e w7 ⟨rfl,hc7⟩) | (go_at_call_of 104 (Value.agg #[.bool sj,.slice Aj nj cj]); refine (K2.out _ ?_).mono ?_; assumption; rintro e w8 ⟨rfl,hc8⟩) | (go_at_call 106; refine (K3.out _).mono ?_; rintro e w9 ⟨rfl,rfl⟩))
    all_goals
     rename_i hlast
     have cV:=hJ hlast.2.2.2.2
     clear hlast
     go_wp2
     go_ret
     exact ⟨by rw [←aY.out]; rfl,bt cS.out cV.out⟩
   have ha0:(a == 0)=false:=by rw [←HA.out]; exact cmpI_zero bD
   have gI:=hJ bD
   clear bD
   obtain ⟨j0,j1⟩:=bK.out.cells
   go_wp2_with fail
   refine (sign_any y sj Aj nj cj w4 bS.out (by omega)).mono ?_
   obtain ⟨b,hb⟩:∃ a,cmpI y 0=a:=⟨_,rfl⟩
   have eS:=hJ hb
   rw [hb]
   clear hb
   rintro e w5 ⟨rfl,hb5⟩
   have aA:=hJ hb5
   clear hb5 j0 j1
   have gJ:=hJ (eM.out.new aA.out)
   have gK:=hJ (eN.out.new aA.out)
   have gL:=hJ (PIo.new eO.out aA.out)
   have gM:=hJ (eP.out.new aA.out)
   have gN:=hJ (eQ.out.new aA.out)
   have gO:=hJ (PIo.new eR.out aA.out)
   have eT:=hJ (bt cS.out aA.out)
   have cW:=hJ (bQ.out.new aA.out)
   have eU:=hJ (PIo.new cT.out aA.out)
   have cX:=hJ (bK.out.new aA.out)
   have eV:=hJ (PIo.new bS.out aA.out)
   clear eM gC eN eO eP gD eQ eR cS gE bQ gF cT gG bK gH bS aA
   by_cases hy0:y=0
   ·have hb0:b=0:=by rw [←eS.out,hy0]; rfl
    have cU:=hJ (show x=0∨y=0 from .inr hy0)
    subst hb0
    clear hy0
    have aY:=hJ (show cmpI (cmpI x 0) (cmpI y 0)=cmpI (p*s) (r*q) by rw [←cmp_sign HL.out.1 HL.out.2.1 aW.out.1 aX.out.1 cU.out]; exact bJ.out)
    let T:=fun w':World=>w'.cell? ⟨g1+1,0,none⟩=some (.bool sg)∧w'.cell? ⟨g1+1,1,none⟩=some (.slice Ag ng cg)∧w'.cell? ⟨g2+1,0,none⟩=some (.bool sj)∧w'.cell? ⟨g2+1,1,none⟩=some (.slice Aj nj cj)∧Below w5.heap.size w5 w'
    have K0:Hid (∀ w',Below w5.heap.size w5 w'→T w'):=hJ (fun w' hb=>⟨(cW.out.new hb).cells.1,(cW.out.new hb).cells.2,(cX.out.new hb).cells.1,(cX.out.new hb).cells.2,hb⟩)
    have K1:Hid (∀ w',T w'→Calls Tryz.prog 104 #[.agg #[.bool sg,.slice Ag ng cg]] w' fun e w''=>e=.returned (.int .i64 (cmpI x 0))∧T w'') :=
     hJ (fun w' h=>(sign_any x sg Ag ng cg w' (PIo.new eU.out h.2.2.2.2) (by omega)).mono (fun e w'' ⟨he,hb⟩=>⟨he,K0.out _ (bt h.2.2.2.2 hb)⟩))
    have K2:Hid (∀ w',T w'→Calls Tryz.prog 104 #[.agg #[.bool sj,.slice Aj nj cj]] w' fun e w''=>e=.returned (.int .i64 (cmpI y 0))∧T w'') :=
     hJ (fun w' h=>(sign_any y sj Aj nj cj w' (PIo.new eV.out h.2.2.2.2) (by omega)).mono (fun e w'' ⟨he,hb⟩=>⟨he,K0.out _ (bt h.2.2.2.2 hb)⟩))
    obtain ⟨a',ha'⟩:∃ a,cmpI x 0=a:=⟨_,rfl⟩
    obtain ⟨b',hb'⟩:∃ a,cmpI y 0=a:=⟨_,rfl⟩
    rw [ha'] at aY K1
    rw [hb'] at aY K2
    clear ha' hb'
    have K3:Hid (∀ w',Calls Tryz.prog 106 #[.int .i64 a',.int .i64 b'] w' fun e w''=>e=.returned (.int .i64 (cmpI a' b'))∧w'=w''):=hJ (fun w'=>cmpi_any a' b' (cmpI a' b') w' (cmpI_cases a' b'))
    have bR:=K0.out _ (Below.refl w5.heap.size w5).drew
    go_wp2_with fail
    go_region_held3 (fun w'=>w'.cell? ⟨g1+1,0,none⟩=some (.bool sg)∧w'.cell? ⟨g1+1,1,none⟩=some (.slice Ag ng cg)∧w'.cell? ⟨g2+1,0,none⟩=some (.bool sj)∧w'.cell? ⟨g2+1,1,none⟩=some (.slice Aj nj cj)∧Below w5.heap.size w5 w') (first | assumption | exact bR | go_keep)
     (first | (go_at_call_of 104 (Value.agg #[.bool sg,.slice Ag ng cg]); refine (K1.out _ ?_).mono ?_; assumption; rintro e w7 ⟨rfl,hc7⟩) | (go_at_call_of 104 (Value.agg #[.bool sj,.slice Aj nj cj]); refine (K2.out _ ?_).mono ?_; assumption; rintro e w8 ⟨rfl,hc8⟩) | (go_at_call 106; refine (K3.out _).mono ?_; rintro e w9 ⟨rfl,rfl⟩))
    all_goals
     rename_i hlast
     have cV:=hJ hlast.2.2.2.2
     clear hlast
     go_wp2
     go_ret
     exact ⟨by rw [←aY.out]; rfl,bt eT.out cV.out⟩
   have hb0:(b == 0)=false:=by rw [←eS.out]; exact cmpI_zero hy0
   have bT:=hJ (show (0 < y∧0 < x∧S.natAbs < lim∧y.natAbs < lim∧Q.natAbs < lim∧x.natAbs < lim)∧cmpI (S*x) (Q*y)=cmpI (p*s) (r*q) from ⟨⟨by have:=aX.out.1; omega,by have:=aW.out.1; have:=gI.out; omega,HL.out.2.2.2.2.2,eL.out.2,HL.out.2.2.2.1,eL.out.1⟩,by rw [Int.mul_comm S x,Int.mul_comm Q y]; exact bJ.out⟩)
   clear hy0
   go_wp2_with fail
   obtain ⟨v0,hv0⟩:=nmz (World.drew w5)
   have aI:=hJ (show Below w5.heap.size w5 v0 by rw [←hv0]; exact (Below.refl _ _).drew)
   have bU:=hJ (bt eT.out aI.out)
   have RE_0:=hJ (PIo.new gO.out aI.out)
   have RJ_0:=hJ (PIo.new eV.out aI.out)
   have RB_0:=hJ (PIo.new gL.out aI.out)
   have RG_0:=hJ (PIo.new eU.out aI.out)
   have aD:=hJ (gJ.out.new aI.out)
   have bE:=hJ (gK.out.new aI.out)
   have bV:=hJ (gM.out.new aI.out)
   have bF:=hJ (gN.out.new aI.out)
   have aG:=hJ (cW.out.new aI.out)
   have aH:=hJ (cX.out.new aI.out)
   refine wp_region_held_drew (S:=(fun w':World=>w'.cell? ⟨(g1+1),0,none⟩=some (.bool sg)∧w'.cell? ⟨(g1+1),1,none⟩=some (.slice Ag ng cg)∧w'.cell? ⟨(g2+1),0,none⟩=some (.bool sj)∧w'.cell? ⟨(g2+1),1,none⟩=some (.slice Aj nj cj))) (by kernel_rfl) ?_ (fun hHeld=>?_)
   ·rw [hv0]
    exact ⟨aG.out.cells.1,aG.out.cells.2,aH.out.cells.1,aH.out.cells.2⟩
   rw [hv0] at hHeld ⊢
   clear hv0 aI
   refine tq 1 ?_
   refine tq 3 ?_
   try simp only [PT]
   refine ryy [0,2] ?_
   refine .cons rfl (fun K hK=>?_) ?_
   ·skip
    obtain ⟨z0,z1⟩:=bF.out.cells
    go_simp
    clear hHeld
    refine hK.out _ _ (⟨aG.out.cells.1,aG.out.cells.2,aH.out.cells.1,aH.out.cells.2⟩) (fun hHeld=>?_)
    clear hK K z0 z1
    try simp only [PT]
    refine ryy [2] ?_
    refine .cons rfl (fun K hK=>?_) .nil
    obtain ⟨z0,z1⟩:=bE.out.cells
    go_simp
    clear hHeld
    refine hK.out _ _ (⟨aG.out.cells.1,aG.out.cells.2,aH.out.cells.1,aH.out.cells.2⟩) (fun hHeld=>?_)
    clear hK K z0 z1
    try simp only [PT]
    refine ryy [4] ?_
    refine .cons rfl (fun K hK=>?_) .nil
    obtain ⟨z0,z1⟩:=aD.out.cells
    have y0:=aD.out.frozen 0
    have y1:=aD.out.frozen 1
    have z9:=aD.out.lt
    go_simp
    obtain ⟨v3,hV⟩:=nmz (World.setCell (World.setCell v0 ⟨h,0,none⟩ (.bool se)) ⟨h,1,none⟩ (.slice Ae ne ce))
    rw [hV]
    have eW:=hJ (show Below w.heap.size w v3 by rw [←hV]; exact below_box bU.out (by rw [HH.out]; omega) _ _)
    have RE_3:=hJ (show PI v3 se Ae ne ce (S) by rw [←hV]; exact PIo.box (RE_0.out) (aD.out) rfl rfl (.bool se) (.slice Ae ne ce))
    have RJ_3:=hJ (show PI v3 sj Aj nj cj (y) by rw [←hV]; exact PIo.box (RJ_0.out) (aD.out) rfl rfl (.bool se) (.slice Ae ne ce))
    have RB_3:=hJ (show PI v3 sb Ab nb cb (Q) by rw [←hV]; exact PIo.box (RB_0.out) (aD.out) rfl rfl (.bool se) (.slice Ae ne ce))
    have RG_3:=hJ (show PI v3 sg Ag ng cg (x) by rw [←hV]; exact PIo.box (RG_0.out) (aD.out) rfl rfl (.bool se) (.slice Ae ne ce))
    have aJ:=hJ (show P2 33 v3 (h+1) (.bool sb) (.slice Ab nb cb) by rw [←hV]; exact bE.out.far2 (show (h+1)≠h from (by have:=aB.out; have:=aC.out; omega)) (.bool se) (.slice Ae ne ce))
    have eX:=hJ (show P2 33 v3 (h+1+1) (.bool sd) (.slice Ad nd cd) by rw [←hV]; exact bV.out.far2 (show (h+1+1)≠h from (by have:=aB.out; have:=aC.out; omega)) (.bool se) (.slice Ae ne ce))
    have eY:=hJ (show P2 33 v3 (h+1+1+1) (.bool se) (.slice Ae ne ce) by rw [←hV]; exact bF.out.far2 (show (h+1+1+1)≠h from (by have:=aB.out; have:=aC.out; omega)) (.bool se) (.slice Ae ne ce))
    have bW:=hJ (show P2 33 v3 (g1+1) (.bool sg) (.slice Ag ng cg) by rw [←hV]; exact aG.out.far2 (show (g1+1)≠h from (by have:=aB.out; have:=aC.out; omega)) (.bool se) (.slice Ae ne ce))
    have bX:=hJ (show P2 33 v3 (g2+1) (.bool sj) (.slice Aj nj cj) by rw [←hV]; exact aH.out.far2 (show (g2+1)≠h from (by have:=aB.out; have:=aC.out; omega)) (.bool se) (.slice Ae ne ce))
    have eZ:=hJ (show P2 33 v3 h (.bool se) (.slice Ae ne ce) by rw [←hV]; exact aD.out.all (.bool se) (.slice Ae ne ce))
    clear hHeld
    refine hK.out _ _ (⟨bW.out.cells.1,bW.out.cells.2,bX.out.cells.1,bX.out.cells.2⟩) (fun hHeld=>?_)
    clear hK K hV z9 z0 z1 y0 y1 bU RE_0 RJ_0 RB_0 RG_0 bE bV bF aG aH aD
    try simp only [PT]
    refine ryy [5] ?_
    refine .cons rfl (fun K hK=>?_) .nil
    obtain ⟨z0,z1⟩:=aJ.out.cells
    have y0:=aJ.out.frozen 0
    have y1:=aJ.out.frozen 1
    have z9:=aJ.out.lt
    go_simp
    obtain ⟨v4,hV⟩:=nmz (World.setCell (World.setCell v3 ⟨(h+1),0,none⟩ (.bool sj)) ⟨(h+1),1,none⟩ (.slice Aj nj cj))
    rw [hV]
    have fA:=hJ (show Below w.heap.size w v4 by rw [←hV]; exact below_box eW.out (by rw [HH.out]; omega) _ _)
    have RE_4:=hJ (show PI v4 se Ae ne ce (S) by rw [←hV]; exact PIo.box (RE_3.out) (aJ.out) rfl rfl (.bool sj) (.slice Aj nj cj))
    have RJ_4:=hJ (show PI v4 sj Aj nj cj (y) by rw [←hV]; exact PIo.box (RJ_3.out) (aJ.out) rfl rfl (.bool sj) (.slice Aj nj cj))
    have RB_4:=hJ (show PI v4 sb Ab nb cb (Q) by rw [←hV]; exact PIo.box (RB_3.out) (aJ.out) rfl rfl (.bool sj) (.slice Aj nj cj))
    have RG_4:=hJ (show PI v4 sg Ag ng cg (x) by rw [←hV]; exact PIo.box (RG_3.out) (aJ.out) rfl rfl (.bool sj) (.slice Aj nj cj))
    have fB:=hJ (show P2 33 v4 h (.bool se) (.slice Ae ne ce) by rw [←hV]; exact eZ.out.far2 (show h≠(h+1) from (by have:=aB.out; have:=aC.out; omega)) (.bool sj) (.slice Aj nj cj))
    have aK:=hJ (show P2 33 v4 (h+1+1) (.bool sd) (.slice Ad nd cd) by rw [←hV]; exact eX.out.far2 (show (h+1+1)≠(h+1) from (by have:=aB.out; have:=aC.out; omega)) (.bool sj) (.slice Aj nj cj))
    have fC:=hJ (show P2 33 v4 (h+1+1+1) (.bool se) (.slice Ae ne ce) by rw [←hV]; exact eY.out.far2 (show (h+1+1+1)≠(h+1) from (by have:=aB.out; have:=aC.out; omega)) (.bool sj) (.slice Aj nj cj))
    have bY:=hJ (show P2 33 v4 (g1+1) (.bool sg) (.slice Ag ng cg) by rw [←hV]; exact bW.out.far2 (show (g1+1)≠(h+1) from (by have:=aB.out; have:=aC.out; omega)) (.bool sj) (.slice Aj nj cj))
    have bZ:=hJ (show P2 33 v4 (g2+1) (.bool sj) (.slice Aj nj cj) by rw [←hV]; exact bX.out.far2 (show (g2+1)≠(h+1) from (by have:=aB.out; have:=aC.out; omega)) (.bool sj) (.slice Aj nj cj))
    have fD:=hJ (show P2 33 v4 (h+1) (.bool sj) (.slice Aj nj cj) by rw [←hV]; exact aJ.out.all (.bool sj) (.slice Aj nj cj))
    clear hHeld
    refine hK.out _ _ (⟨bY.out.cells.1,bY.out.cells.2,bZ.out.cells.1,bZ.out.cells.2⟩) (fun hHeld=>?_)
    clear hK K hV z9 z0 z1 y0 y1 eW RE_3 RJ_3 RB_3 RG_3 eZ eX eY bW bX aJ
    try simp only [PT]
    refine ryy [6] ?_
    refine .cons rfl (fun K hK=>?_) .nil
    obtain ⟨z0,z1⟩:=aK.out.cells
    have y0:=aK.out.frozen 0
    have y1:=aK.out.frozen 1
    have z9:=aK.out.lt
    go_simp
    obtain ⟨v5,hV⟩:=nmz (World.setCell (World.setCell v4 ⟨(h+1+1),0,none⟩ (.bool sb)) ⟨(h+1+1),1,none⟩ (.slice Ab nb cb))
    rw [hV]
    have fE:=hJ (show Below w.heap.size w v5 by rw [←hV]; exact below_box fA.out (by rw [HH.out]; omega) _ _)
    have RE_5:=hJ (show PI v5 se Ae ne ce (S) by rw [←hV]; exact PIo.box (RE_4.out) (aK.out) rfl rfl (.bool sb) (.slice Ab nb cb))
    have RJ_5:=hJ (show PI v5 sj Aj nj cj (y) by rw [←hV]; exact PIo.box (RJ_4.out) (aK.out) rfl rfl (.bool sb) (.slice Ab nb cb))
    have RB_5:=hJ (show PI v5 sb Ab nb cb (Q) by rw [←hV]; exact PIo.box (RB_4.out) (aK.out) rfl rfl (.bool sb) (.slice Ab nb cb))
    have RG_5:=hJ (show PI v5 sg Ag ng cg (x) by rw [←hV]; exact PIo.box (RG_4.out) (aK.out) rfl rfl (.bool sb) (.slice Ab nb cb))
    have fF:=hJ (show P2 33 v5 h (.bool se) (.slice Ae ne ce) by rw [←hV]; exact fB.out.far2 (show h≠(h+1+1) from (by have:=aB.out; have:=aC.out; omega)) (.bool sb) (.slice Ab nb cb))
    have fG:=hJ (show P2 33 v5 (h+1) (.bool sj) (.slice Aj nj cj) by rw [←hV]; exact fD.out.far2 (show (h+1)≠(h+1+1) from (by have:=aB.out; have:=aC.out; omega)) (.bool sb) (.slice Ab nb cb))
    have aL:=hJ (show P2 33 v5 (h+1+1+1) (.bool se) (.slice Ae ne ce) by rw [←hV]; exact fC.out.far2 (show (h+1+1+1)≠(h+1+1) from (by have:=aB.out; have:=aC.out; omega)) (.bool sb) (.slice Ab nb cb))
    have cA:=hJ (show P2 33 v5 (g1+1) (.bool sg) (.slice Ag ng cg) by rw [←hV]; exact bY.out.far2 (show (g1+1)≠(h+1+1) from (by have:=aB.out; have:=aC.out; omega)) (.bool sb) (.slice Ab nb cb))
    have cB:=hJ (show P2 33 v5 (g2+1) (.bool sj) (.slice Aj nj cj) by rw [←hV]; exact bZ.out.far2 (show (g2+1)≠(h+1+1) from (by have:=aB.out; have:=aC.out; omega)) (.bool sb) (.slice Ab nb cb))
    have fH:=hJ (show P2 33 v5 (h+1+1) (.bool sb) (.slice Ab nb cb) by rw [←hV]; exact aK.out.all (.bool sb) (.slice Ab nb cb))
    clear hHeld
    refine hK.out _ _ (⟨cA.out.cells.1,cA.out.cells.2,cB.out.cells.1,cB.out.cells.2⟩) (fun hHeld=>?_)
    clear hK K hV z9 z0 z1 y0 y1 fA RE_4 RJ_4 RB_4 RG_4 fB fD fC bY bZ aK
    try simp only [PT]
    refine ryy [7] ?_
    refine .cons rfl (fun K hK=>?_) .nil
    obtain ⟨z0,z1⟩:=aL.out.cells
    have y0:=aL.out.frozen 0
    have y1:=aL.out.frozen 1
    have z9:=aL.out.lt
    go_simp
    obtain ⟨v6,hV⟩:=nmz (World.setCell (World.setCell v5 ⟨(h+1+1+1),0,none⟩ (.bool sg)) ⟨(h+1+1+1),1,none⟩ (.slice Ag ng cg))
    rw [hV]
    have gP:=hJ (show Below w.heap.size w v6 by rw [←hV]; exact below_box fE.out (by rw [HH.out]; omega) _ _)
    have RE_6:=hJ (show PI v6 se Ae ne ce (S) by rw [←hV]; exact PIo.box (RE_5.out) (aL.out) rfl rfl (.bool sg) (.slice Ag ng cg))
    have RJ_6:=hJ (show PI v6 sj Aj nj cj (y) by rw [←hV]; exact PIo.box (RJ_5.out) (aL.out) rfl rfl (.bool sg) (.slice Ag ng cg))
    have RB_6:=hJ (show PI v6 sb Ab nb cb (Q) by rw [←hV]; exact PIo.box (RB_5.out) (aL.out) rfl rfl (.bool sg) (.slice Ag ng cg))
    have RG_6:=hJ (show PI v6 sg Ag ng cg (x) by rw [←hV]; exact PIo.box (RG_5.out) (aL.out) rfl rfl (.bool sg) (.slice Ag ng cg))
    have gQ:=hJ (show P2 33 v6 h (.bool se) (.slice Ae ne ce) by rw [←hV]; exact fF.out.far2 (show h≠(h+1+1+1) from (by have:=aB.out; have:=aC.out; omega)) (.bool sg) (.slice Ag ng cg))
    have gR:=hJ (show P2 33 v6 (h+1) (.bool sj) (.slice Aj nj cj) by rw [←hV]; exact fG.out.far2 (show (h+1)≠(h+1+1+1) from (by have:=aB.out; have:=aC.out; omega)) (.bool sg) (.slice Ag ng cg))
    have gS:=hJ (show P2 33 v6 (h+1+1) (.bool sb) (.slice Ab nb cb) by rw [←hV]; exact fH.out.far2 (show (h+1+1)≠(h+1+1+1) from (by have:=aB.out; have:=aC.out; omega)) (.bool sg) (.slice Ag ng cg))
    have fI:=hJ (show P2 33 v6 (g1+1) (.bool sg) (.slice Ag ng cg) by rw [←hV]; exact cA.out.far2 (show (g1+1)≠(h+1+1+1) from (by have:=aB.out; have:=aC.out; omega)) (.bool sg) (.slice Ag ng cg))
    have fJ:=hJ (show P2 33 v6 (g2+1) (.bool sj) (.slice Aj nj cj) by rw [←hV]; exact cB.out.far2 (show (g2+1)≠(h+1+1+1) from (by have:=aB.out; have:=aC.out; omega)) (.bool sg) (.slice Ag ng cg))
    have gT:=hJ (show P2 33 v6 (h+1+1+1) (.bool sg) (.slice Ag ng cg) by rw [←hV]; exact aL.out.all (.bool sg) (.slice Ag ng cg))
    clear hHeld
    refine hK.out _ _ (⟨fI.out.cells.1,fI.out.cells.2,fJ.out.cells.1,fJ.out.cells.2⟩) (fun hHeld=>?_)
    clear hK K hV z9 z0 z1 y0 y1 fE RE_5 RJ_5 RB_5 RG_5 fF fG fH cA cB aL
    try simp only [PT]
    refine wpAnyH_done (by kernel_rfl) ?_ _
    clear hHeld
    go_wp2
    go_roundg (x.natAbs+y.natAbs)
    case measure=>have:=aW.out; have:=aX.out; have:=HG.out; omega
    case rel=>exact ⟨S,y,Q,x,se,sj,sb,sg,Ae,Aj,Ab,Ag,ne,nj,nb,ng,ce,cj,cb,cg,by omega,gQ.out,gR.out,gS.out,gT.out,RE_6.out,RJ_6.out,RB_6.out,RG_6.out,bT.out.1,bT.out.2,gP.out⟩
   refine .cons rfl (fun K hK=>?_) .nil
   ·skip
    obtain ⟨z0,z1⟩:=bE.out.cells
    go_simp
    clear hHeld
    refine hK.out _ _ (⟨aG.out.cells.1,aG.out.cells.2,aH.out.cells.1,aH.out.cells.2⟩) (fun hHeld=>?_)
    clear hK K z0 z1
    try simp only [PT]
    refine ryy [0] ?_
    refine .cons rfl (fun K hK=>?_) .nil
    obtain ⟨z0,z1⟩:=bF.out.cells
    go_simp
    clear hHeld
    refine hK.out _ _ (⟨aG.out.cells.1,aG.out.cells.2,aH.out.cells.1,aH.out.cells.2⟩) (fun hHeld=>?_)
    clear hK K z0 z1
    try simp only [PT]
    refine ryy [4] ?_
    refine .cons rfl (fun K hK=>?_) .nil
    obtain ⟨z0,z1⟩:=aD.out.cells
    have y0:=aD.out.frozen 0
    have y1:=aD.out.frozen 1
    have z9:=aD.out.lt
    go_simp
    obtain ⟨v9,hV⟩:=nmz (World.setCell (World.setCell v0 ⟨h,0,none⟩ (.bool se)) ⟨h,1,none⟩ (.slice Ae ne ce))
    rw [hV]
    have fK:=hJ (show Below w.heap.size w v9 by rw [←hV]; exact below_box bU.out (by rw [HH.out]; omega) _ _)
    have RE_9:=hJ (show PI v9 se Ae ne ce (S) by rw [←hV]; exact PIo.box (RE_0.out) (aD.out) rfl rfl (.bool se) (.slice Ae ne ce))
    have RJ_9:=hJ (show PI v9 sj Aj nj cj (y) by rw [←hV]; exact PIo.box (RJ_0.out) (aD.out) rfl rfl (.bool se) (.slice Ae ne ce))
    have RB_9:=hJ (show PI v9 sb Ab nb cb (Q) by rw [←hV]; exact PIo.box (RB_0.out) (aD.out) rfl rfl (.bool se) (.slice Ae ne ce))
    have RG_9:=hJ (show PI v9 sg Ag ng cg (x) by rw [←hV]; exact PIo.box (RG_0.out) (aD.out) rfl rfl (.bool se) (.slice Ae ne ce))
    have aM:=hJ (show P2 33 v9 (h+1) (.bool sb) (.slice Ab nb cb) by rw [←hV]; exact bE.out.far2 (show (h+1)≠h from (by have:=aB.out; have:=aC.out; omega)) (.bool se) (.slice Ae ne ce))
    have fL:=hJ (show P2 33 v9 (h+1+1) (.bool sd) (.slice Ad nd cd) by rw [←hV]; exact bV.out.far2 (show (h+1+1)≠h from (by have:=aB.out; have:=aC.out; omega)) (.bool se) (.slice Ae ne ce))
    have fM:=hJ (show P2 33 v9 (h+1+1+1) (.bool se) (.slice Ae ne ce) by rw [←hV]; exact bF.out.far2 (show (h+1+1+1)≠h from (by have:=aB.out; have:=aC.out; omega)) (.bool se) (.slice Ae ne ce))
    have cC:=hJ (show P2 33 v9 (g1+1) (.bool sg) (.slice Ag ng cg) by rw [←hV]; exact aG.out.far2 (show (g1+1)≠h from (by have:=aB.out; have:=aC.out; omega)) (.bool se) (.slice Ae ne ce))
    have cD:=hJ (show P2 33 v9 (g2+1) (.bool sj) (.slice Aj nj cj) by rw [←hV]; exact aH.out.far2 (show (g2+1)≠h from (by have:=aB.out; have:=aC.out; omega)) (.bool se) (.slice Ae ne ce))
    have fN:=hJ (show P2 33 v9 h (.bool se) (.slice Ae ne ce) by rw [←hV]; exact aD.out.all (.bool se) (.slice Ae ne ce))
    clear hHeld
    refine hK.out _ _ (⟨cC.out.cells.1,cC.out.cells.2,cD.out.cells.1,cD.out.cells.2⟩) (fun hHeld=>?_)
    clear hK K hV z9 z0 z1 y0 y1 bU RE_0 RJ_0 RB_0 RG_0 bE bV bF aG aH aD
    try simp only [PT]
    refine ryy [5] ?_
    refine .cons rfl (fun K hK=>?_) .nil
    obtain ⟨z0,z1⟩:=aM.out.cells
    have y0:=aM.out.frozen 0
    have y1:=aM.out.frozen 1
    have z9:=aM.out.lt
    go_simp
    obtain ⟨v10,hV⟩:=nmz (World.setCell (World.setCell v9 ⟨(h+1),0,none⟩ (.bool sj)) ⟨(h+1),1,none⟩ (.slice Aj nj cj))
    rw [hV]
    have fO:=hJ (show Below w.heap.size w v10 by rw [←hV]; exact below_box fK.out (by rw [HH.out]; omega) _ _)
    have RE_10:=hJ (show PI v10 se Ae ne ce (S) by rw [←hV]; exact PIo.box (RE_9.out) (aM.out) rfl rfl (.bool sj) (.slice Aj nj cj))
    have RJ_10:=hJ (show PI v10 sj Aj nj cj (y) by rw [←hV]; exact PIo.box (RJ_9.out) (aM.out) rfl rfl (.bool sj) (.slice Aj nj cj))
    have RB_10:=hJ (show PI v10 sb Ab nb cb (Q) by rw [←hV]; exact PIo.box (RB_9.out) (aM.out) rfl rfl (.bool sj) (.slice Aj nj cj))
    have RG_10:=hJ (show PI v10 sg Ag ng cg (x) by rw [←hV]; exact PIo.box (RG_9.out) (aM.out) rfl rfl (.bool sj) (.slice Aj nj cj))
    have fP:=hJ (show P2 33 v10 h (.bool se) (.slice Ae ne ce) by rw [←hV]; exact fN.out.far2 (show h≠(h+1) from (by have:=aB.out; have:=aC.out; omega)) (.bool sj) (.slice Aj nj cj))
    have aO:=hJ (show P2 33 v10 (h+1+1) (.bool sd) (.slice Ad nd cd) by rw [←hV]; exact fL.out.far2 (show (h+1+1)≠(h+1) from (by have:=aB.out; have:=aC.out; omega)) (.bool sj) (.slice Aj nj cj))
    have fQ:=hJ (show P2 33 v10 (h+1+1+1) (.bool se) (.slice Ae ne ce) by rw [←hV]; exact fM.out.far2 (show (h+1+1+1)≠(h+1) from (by have:=aB.out; have:=aC.out; omega)) (.bool sj) (.slice Aj nj cj))
    have cE:=hJ (show P2 33 v10 (g1+1) (.bool sg) (.slice Ag ng cg) by rw [←hV]; exact cC.out.far2 (show (g1+1)≠(h+1) from (by have:=aB.out; have:=aC.out; omega)) (.bool sj) (.slice Aj nj cj))
    have cF:=hJ (show P2 33 v10 (g2+1) (.bool sj) (.slice Aj nj cj) by rw [←hV]; exact cD.out.far2 (show (g2+1)≠(h+1) from (by have:=aB.out; have:=aC.out; omega)) (.bool sj) (.slice Aj nj cj))
    have fR:=hJ (show P2 33 v10 (h+1) (.bool sj) (.slice Aj nj cj) by rw [←hV]; exact aM.out.all (.bool sj) (.slice Aj nj cj))
    clear hHeld
    refine hK.out _ _ (⟨cE.out.cells.1,cE.out.cells.2,cF.out.cells.1,cF.out.cells.2⟩) (fun hHeld=>?_)
    clear hK K hV z9 z0 z1 y0 y1 fK RE_9 RJ_9 RB_9 RG_9 fN fL fM cC cD aM
    try simp only [PT]
    refine ryy [6] ?_
    refine .cons rfl (fun K hK=>?_) .nil
    obtain ⟨z0,z1⟩:=aO.out.cells
    have y0:=aO.out.frozen 0
    have y1:=aO.out.frozen 1
    have z9:=aO.out.lt
    go_simp
    obtain ⟨v11,hV⟩:=nmz (World.setCell (World.setCell v10 ⟨(h+1+1),0,none⟩ (.bool sb)) ⟨(h+1+1),1,none⟩ (.slice Ab nb cb))
    rw [hV]
    have fS:=hJ (show Below w.heap.size w v11 by rw [←hV]; exact below_box fO.out (by rw [HH.out]; omega) _ _)
    have RE_11:=hJ (show PI v11 se Ae ne ce (S) by rw [←hV]; exact PIo.box (RE_10.out) (aO.out) rfl rfl (.bool sb) (.slice Ab nb cb))
    have RJ_11:=hJ (show PI v11 sj Aj nj cj (y) by rw [←hV]; exact PIo.box (RJ_10.out) (aO.out) rfl rfl (.bool sb) (.slice Ab nb cb))
    have RB_11:=hJ (show PI v11 sb Ab nb cb (Q) by rw [←hV]; exact PIo.box (RB_10.out) (aO.out) rfl rfl (.bool sb) (.slice Ab nb cb))
    have RG_11:=hJ (show PI v11 sg Ag ng cg (x) by rw [←hV]; exact PIo.box (RG_10.out) (aO.out) rfl rfl (.bool sb) (.slice Ab nb cb))
    have fT:=hJ (show P2 33 v11 h (.bool se) (.slice Ae ne ce) by rw [←hV]; exact fP.out.far2 (show h≠(h+1+1) from (by have:=aB.out; have:=aC.out; omega)) (.bool sb) (.slice Ab nb cb))
    have fU:=hJ (show P2 33 v11 (h+1) (.bool sj) (.slice Aj nj cj) by rw [←hV]; exact fR.out.far2 (show (h+1)≠(h+1+1) from (by have:=aB.out; have:=aC.out; omega)) (.bool sb) (.slice Ab nb cb))
    have aR:=hJ (show P2 33 v11 (h+1+1+1) (.bool se) (.slice Ae ne ce) by rw [←hV]; exact fQ.out.far2 (show (h+1+1+1)≠(h+1+1) from (by have:=aB.out; have:=aC.out; omega)) (.bool sb) (.slice Ab nb cb))
    have cG:=hJ (show P2 33 v11 (g1+1) (.bool sg) (.slice Ag ng cg) by rw [←hV]; exact cE.out.far2 (show (g1+1)≠(h+1+1) from (by have:=aB.out; have:=aC.out; omega)) (.bool sb) (.slice Ab nb cb))
    have cH:=hJ (show P2 33 v11 (g2+1) (.bool sj) (.slice Aj nj cj) by rw [←hV]; exact cF.out.far2 (show (g2+1)≠(h+1+1) from (by have:=aB.out; have:=aC.out; omega)) (.bool sb) (.slice Ab nb cb))
    have fV:=hJ (show P2 33 v11 (h+1+1) (.bool sb) (.slice Ab nb cb) by rw [←hV]; exact aO.out.all (.bool sb) (.slice Ab nb cb))
    clear hHeld
    refine hK.out _ _ (⟨cG.out.cells.1,cG.out.cells.2,cH.out.cells.1,cH.out.cells.2⟩) (fun hHeld=>?_)
    clear hK K hV z9 z0 z1 y0 y1 fO RE_10 RJ_10 RB_10 RG_10 fP fR fQ cE cF aO
    try simp only [PT]
    refine ryy [7] ?_
    refine .cons rfl (fun K hK=>?_) .nil
    obtain ⟨z0,z1⟩:=aR.out.cells
    have y0:=aR.out.frozen 0
    have y1:=aR.out.frozen 1
    have z9:=aR.out.lt
    go_simp
    obtain ⟨v12,hV⟩:=nmz (World.setCell (World.setCell v11 ⟨(h+1+1+1),0,none⟩ (.bool sg)) ⟨(h+1+1+1),1,none⟩ (.slice Ag ng cg))
    rw [hV]
    have gU:=hJ (show Below w.heap.size w v12 by rw [←hV]; exact below_box fS.out (by rw [HH.out]; omega) _ _)
    have RE_12:=hJ (show PI v12 se Ae ne ce (S) by rw [←hV]; exact PIo.box (RE_11.out) (aR.out) rfl rfl (.bool sg) (.slice Ag ng cg))
    have RJ_12:=hJ (show PI v12 sj Aj nj cj (y) by rw [←hV]; exact PIo.box (RJ_11.out) (aR.out) rfl rfl (.bool sg) (.slice Ag ng cg))
    have RB_12:=hJ (show PI v12 sb Ab nb cb (Q) by rw [←hV]; exact PIo.box (RB_11.out) (aR.out) rfl rfl (.bool sg) (.slice Ag ng cg))
    have RG_12:=hJ (show PI v12 sg Ag ng cg (x) by rw [←hV]; exact PIo.box (RG_11.out) (aR.out) rfl rfl (.bool sg) (.slice Ag ng cg))
    have gV:=hJ (show P2 33 v12 h (.bool se) (.slice Ae ne ce) by rw [←hV]; exact fT.out.far2 (show h≠(h+1+1+1) from (by have:=aB.out; have:=aC.out; omega)) (.bool sg) (.slice Ag ng cg))
    have gW:=hJ (show P2 33 v12 (h+1) (.bool sj) (.slice Aj nj cj) by rw [←hV]; exact fU.out.far2 (show (h+1)≠(h+1+1+1) from (by have:=aB.out; have:=aC.out; omega)) (.bool sg) (.slice Ag ng cg))
    have gX:=hJ (show P2 33 v12 (h+1+1) (.bool sb) (.slice Ab nb cb) by rw [←hV]; exact fV.out.far2 (show (h+1+1)≠(h+1+1+1) from (by have:=aB.out; have:=aC.out; omega)) (.bool sg) (.slice Ag ng cg))
    have fW:=hJ (show P2 33 v12 (g1+1) (.bool sg) (.slice Ag ng cg) by rw [←hV]; exact cG.out.far2 (show (g1+1)≠(h+1+1+1) from (by have:=aB.out; have:=aC.out; omega)) (.bool sg) (.slice Ag ng cg))
    have fX:=hJ (show P2 33 v12 (g2+1) (.bool sj) (.slice Aj nj cj) by rw [←hV]; exact cH.out.far2 (show (g2+1)≠(h+1+1+1) from (by have:=aB.out; have:=aC.out; omega)) (.bool sg) (.slice Ag ng cg))
    have gY:=hJ (show P2 33 v12 (h+1+1+1) (.bool sg) (.slice Ag ng cg) by rw [←hV]; exact aR.out.all (.bool sg) (.slice Ag ng cg))
    clear hHeld
    refine hK.out _ _ (⟨fW.out.cells.1,fW.out.cells.2,fX.out.cells.1,fX.out.cells.2⟩) (fun hHeld=>?_)
    clear hK K hV z9 z0 z1 y0 y1 fS RE_11 RJ_11 RB_11 RG_11 fT fU fV cG cH aR
    try simp only [PT]
    refine wpAnyH_done (by kernel_rfl) ?_ _
    clear hHeld
    go_wp2
    go_roundg (x.natAbs+y.natAbs)
    case measure=>have:=aW.out; have:=aX.out; have:=HG.out; omega
    case rel=>exact ⟨S,y,Q,x,se,sj,sb,sg,Ae,Aj,Ab,Ag,ne,nj,nb,ng,ce,cj,cb,cg,by omega,gV.out,gW.out,gX.out,gY.out,RE_12.out,RJ_12.out,RB_12.out,RG_12.out,bT.out.1,bT.out.2,gU.out⟩
  ·have bJ:=hJ (bC.out hu)
   have hub:(u == 0)=false:=by simp [hu]
   clear hu aS bC
   go_wp2
   go_ret
   exact ⟨by rw [←bJ.out]; rfl,cP.out⟩
theorem dn_cmp {p q r s:Int} (hq:0 < q) (hs:0 < s):(cmpI (dn q) (dn s)=0→cmpI p r=cmpI (p*s) (r*q))∧True:=by
 refine ⟨fun h=>?_,trivial⟩
 have he:dn q=dn s:=by
  rcases cmpI_cases (dn q) (dn s) with ⟨_,h1⟩ | ⟨h1,_⟩ | ⟨_,h1⟩
  ·omega
  ·exact h1
  omega
 have:q=s:=by
  unfold dn at he
  split at he <;> split at he <;> omega
 subst this
 exact (cmpI_mul hq).symm
theorem two_codes (x y:Int) (h:feV [outC x,outC y]=0):outV x=x∧outV y=y:=by
 rcases outVC x with ⟨_,h1,h2⟩ | ⟨_,h1,h2⟩ <;> rcases outVC y with ⟨_,h3,h4⟩ | ⟨_,h3,h4⟩
 ·exact ⟨h1,h3⟩
 all_goals
  rw [h2,h4] at h
  simp [feV] at h
theorem fcompare_any (p q r s:Int) (sa sb sd se:Bool) (Aa Ab Ad Ae:Option Addr) (na ca nb cb nd cd ne ce:Nat) (w:World) (hx:PF w sa Aa na ca sb Ab nb cb p q) (hy:PF w sd Ad nd cd se Ae ne ce r s) (hq:0 < q) (hs:0 < s) (hlp:p.natAbs < lim) (hlq:q.natAbs < lim) (hlr:r.natAbs < lim) (hls:s.natAbs < lim) :
  Calls Tryz.prog 65 #[.agg #[.bool sa,.slice Aa na ca,.bool sb,.slice Ab nb cb],.agg #[.bool sd,.slice Ad nd cd,.bool se,.slice Ae ne ce]] w fun e w'=>e=.returned (.int .i64 (cmpI (p*s) (r*q)))∧Below w.heap.size w w':=by
 have aG:=hJ (And.intro hq (And.intro hs (And.intro hlp (And.intro hlq (And.intro hlr hls)))))
 obtain ⟨W,hW⟩:∃ W,(w.alloc (.cells #[.bool sa,.slice Aa na ca,.bool sb,.slice Ab nb cb] 35)).alloc (.cells #[.bool sd,.slice Ad nd cd,.bool se,.slice Ae ne ce] 35)=W:=⟨_,rfl⟩
 have HK:=hJ (show Below w.heap.size w W by rw [←hW]; exact ((Below.refl _ w).alloc (Nat.le_refl _) _).alloc (by simp) _)
 have bZ:=hJ (show P4 35 W w.heap.size (.bool sa) (.slice Aa na ca) (.bool sb) (.slice Ab nb cb) by rw [←hW]; exact (P4.lit w _ _ _ _ _).new ((Below.refl _ _).alloc (Nat.le_refl _) _))
 have cA:=hJ (show P4 35 W (w.heap.size+1) (.bool sd) (.slice Ad nd cd) (.bool se) (.slice Ae ne ce) by
  rw [←hW]
  have h0:=P4.lit (w.alloc (.cells #[.bool sa,.slice Aa na ca,.bool sb,.slice Ab nb cb] 35)) 35 (.bool sd) (.slice Ad nd cd) (.bool se) (.slice Ae ne ce)
  rw [World.size_alloc] at h0
  exact h0)
 have cL:=hJ (hx.new HK.out)
 have cM:=hJ (hy.new HK.out)
 have hna:na≤512:=plim hx.1 hlp
 have hnb:nb≤512:=plim hx.2 (dn_lim hlq)
 have hnd:nd≤512:=plim hy.1 hlr
 have hne:ne≤512:=plim hy.2 (dn_lim hls)
 have cN:=hJ (dn_cmp (p:=p) (r:=r) hq hs)
 obtain ⟨h,hh⟩:∃ h,w.heap.size=h:=⟨_,rfl⟩
 rw [hh] at bZ cA
 clear hx hy hq hs hlp hlq hlr hls
 go_enter Tryz.func65,Tryz.ntmps65
 obtain ⟨cla0_1,cla1_1,cla2_1,cla3_1⟩:=bZ.out.cells
 obtain ⟨clb0_1,clb1_1,clb2_1,clb3_1⟩:=cA.out.cells
 go_wp2_with fail
 refine (pcompare_any (dn q) (dn s) sb se Ab Ae nb cb ne ce W cL.out.2 cM.out.2 (by omega) (by omega)).mono ?_
 obtain ⟨u,hu⟩:∃ u,cmpI (dn q) (dn s)=u:=⟨_,rfl⟩
 rw [hu] at cN ⊢
 clear hu
 rintro e w1 ⟨rfl,hb1⟩
 have bE:=hJ hb1
 clear hb1
 have aV:=hJ (bZ.out.new bE.out)
 have cB:=hJ (cL.out.new bE.out)
 have aW:=hJ (cA.out.new bE.out)
 have cC:=hJ (cM.out.new bE.out)
 have cO:=hJ (bt HK.out bE.out)
 clear bZ cL cA cM HK hW hh cla0_1 cla1_1 cla2_1 cla3_1 clb0_1 clb1_1 clb2_1 clb3_1 bE
 by_cases hu:u=0
 ·have gL:=hJ (cN.out.1 hu)
  subst hu
  obtain ⟨cla0_2,cla1_2,cla2_2,cla3_2⟩:=aV.out.cells
  obtain ⟨clb0_2,clb1_2,clb2_2,clb3_2⟩:=aW.out.cells
  go_wp2_with fail
  refine (pcompare_any p r sa sd Aa Ad na ca nd cd w1 cB.out.1 cC.out.1 (by omega) (by omega)).mono ?_
  rw [gL.out]
  rintro e w2 ⟨rfl,hb2⟩
  have bR:=hJ (bt cO.out hb2)
  clear hb2
  go_wp2
  go_ret
  exact ⟨rfl,bR.out⟩
 ·have hub:(u == 0)=false:=by simp [hu]
  clear hu cN
  obtain ⟨cla0_3,cla1_3,cla2_3,cla3_3⟩:=aV.out.cells
  obtain ⟨clb0_3,clb1_3,clb2_3,clb3_3⟩:=aW.out.cells
  go_wp2_with fail
  clear hub
  clear cla0_3 cla1_3 cla2_3 cla3_3 clb0_3 clb1_3 clb2_3 clb3_3
  have aB:Hid (∀ w',Below w1.heap.size w1 w'→(fun w':World=>w'.cell? ⟨h,0,none⟩=some (.bool sa)∧w'.cell? ⟨h,1,none⟩=some (.slice Aa na ca)∧w'.cell? ⟨h,2,none⟩=some (.bool sb)∧w'.cell? ⟨h,3,none⟩=some (.slice Ab nb cb)∧w'.cell? ⟨(h+1),0,none⟩=some (.bool sd)∧w'.cell? ⟨(h+1),1,none⟩=some (.slice Ad nd cd)∧w'.cell? ⟨(h+1),2,none⟩=some (.bool se)∧w'.cell? ⟨(h+1),3,none⟩=some (.slice Ae ne ce)∧Below w1.heap.size w1 w') w'):=hJ (fun w' hb=>⟨(aV.out.new hb).cells.1,(aV.out.new hb).cells.2.1,(aV.out.new hb).cells.2.2.1,(aV.out.new hb).cells.2.2.2,(aW.out.new hb).cells.1,(aW.out.new hb).cells.2.1,(aW.out.new hb).cells.2.2.1,(aW.out.new hb).cells.2.2.2,hb⟩)
  have dQ:=hJ (Below.refl w1.heap.size w1)
  go_upto_region 3 with fail
  go_cut [5,6] (fun tp tq wx=>∃ (G H:Nat) (s4a:Bool) (A4a:Option Addr) (n4a c4a:Nat) (s4b:Bool) (A4b:Option Addr) (n4b c4b:Nat),tp=.pointer (some ⟨G,0,none⟩)∧tq=.pointer (some ⟨H,0,none⟩)∧P2 33 wx G (.bool s4a) (.slice A4a n4a c4a)∧P2 33 wx H (.bool s4b) (.slice A4b n4b c4b)∧PI wx s4a A4a n4a c4a (q)∧PI wx s4b A4b n4b c4b (s)∧Below w1.heap.size w1 wx)
  case first =>
   have gM:=dQ
   obtain ⟨v0,hv0⟩:=nmz (World.drew w1)
   have aM:=hJ (show Below w1.heap.size w1 v0 by rw [←hv0]; exact (Below.refl _ _).drew)
   have a_0:=hJ ((cB.out).new aM.out)
   have b_0:=hJ ((cC.out).new aM.out)
   refine wp_region_held_drew (S:=(fun w':World=>w'.cell? ⟨h,0,none⟩=some (.bool sa)∧w'.cell? ⟨h,1,none⟩=some (.slice Aa na ca)∧w'.cell? ⟨h,2,none⟩=some (.bool sb)∧w'.cell? ⟨h,3,none⟩=some (.slice Ab nb cb)∧w'.cell? ⟨(h+1),0,none⟩=some (.bool sd)∧w'.cell? ⟨(h+1),1,none⟩=some (.slice Ad nd cd)∧w'.cell? ⟨(h+1),2,none⟩=some (.bool se)∧w'.cell? ⟨(h+1),3,none⟩=some (.slice Ae ne ce)∧Below w1.heap.size w1 w')) (by kernel_rfl) ?_ (fun hHeld=>?_)
   ·rw [hv0]
    exact aB.out _ aM.out
   rw [hv0] at hHeld ⊢
   clear hv0 gM
   refine tq 0 ?_
   refine tq 2 ?_
   try simp only [PT]
   refine wpAnyH_name (fun F hF a0 ha0 L0 hL0=>?_)
   have bF:∀ (s4a:Bool) (A4a:Option Addr) (n4a:Nat) (c4a:Nat) (s4b:Bool) (A4b:Option Addr) (n4b:Nat) (c4b:Nat) (gx:Nat) (gy:Nat) (v:World),Hid (Below w1.heap.size w1 v)→Hid (PF v sa Aa na ca sb Ab nb cb p q)→Hid (PF v sd Ad nd cd se Ae ne ce r s)→Hid (PI v s4a A4a n4a c4a (q))→Hid (PI v s4b A4b n4b c4b (s))→Hid (P2 33 v gx (.bool false) (.slice none 0 0))→Hid (w1.heap.size≤gx)→Hid (P2 33 v gy (.bool false) (.slice none 0 0))→Hid (w1.heap.size≤gy)→Hid (gx≠gy)→F 2 (Array.setIfInBounds (Array.setIfInBounds (Array.setIfInBounds (Array.setIfInBounds L0 1 true) 3 true) 4 true) 5 true) (Act.put (Act.put (Act.put (Act.put a0 (some 23) (.agg #[.bool s4a,.slice A4a n4a c4a])) (some 25) (.agg #[.bool s4b,.slice A4b n4b c4b])) (some 5) (.pointer (some ⟨gx,0,none⟩))) (some 6) (.pointer (some ⟨gy,0,none⟩))) v:=by
    intro s4a A4a n4a c4a s4b A4b n4b c4b gx gy v aA a_j b_j N0_j N1_j aC aI aD aJ bG
    subst hF ha0 hL0
    simp only [PT] at  ⊢
    have hHeld:=aB.out _ aA.out
    refine ryy [6] ?_
    refine .cons rfl (fun K hK=>?_) .nil
    obtain ⟨z0,z1⟩:=aC.out.cells
    have y0:=aC.out.frozen 0
    have y1:=aC.out.frozen 1
    have z9:=aC.out.lt
    go_simp
    obtain ⟨v1,hV⟩:=nmz (World.setCell (World.setCell v ⟨gx,0,none⟩ (.bool s4a)) ⟨gx,1,none⟩ (.slice A4a n4a c4a))
    rw [hV]
    have cP:=hJ (show Below w1.heap.size w1 v1 by rw [←hV]; exact below_box aA.out (aI.out) _ _)
    have a_1:=hJ (show PF v1 sa Aa na ca sb Ab nb cb p q by rw [←hV]; exact PF.box (a_j.out) (aC.out) (.bool s4a) (.slice A4a n4a c4a))
    have b_1:=hJ (show PF v1 sd Ad nd cd se Ae ne ce r s by rw [←hV]; exact PF.box (b_j.out) (aC.out) (.bool s4a) (.slice A4a n4a c4a))
    have N0_1:=hJ (show PI v1 s4a A4a n4a c4a (q) by rw [←hV]; exact PIo.box (N0_j.out) (aC.out) rfl rfl (.bool s4a) (.slice A4a n4a c4a))
    have N1_1:=hJ (show PI v1 s4b A4b n4b c4b (s) by rw [←hV]; exact PIo.box (N1_j.out) (aC.out) rfl rfl (.bool s4a) (.slice A4a n4a c4a))
    have aS:=hJ (show P2 33 v1 gy (.bool false) (.slice none 0 0) by rw [←hV]; exact aD.out.far2 (show gy≠gx from bG.out.symm) (.bool s4a) (.slice A4a n4a c4a))
    have dR:=hJ (show P2 33 v1 gx (.bool s4a) (.slice A4a n4a c4a) by rw [←hV]; exact aC.out.all (.bool s4a) (.slice A4a n4a c4a))
    clear hHeld
    refine hK.out _ _ (aB.out _ cP.out) (fun hHeld=>?_)
    clear hK K hV z9 z0 z1 y0 y1 aA a_j b_j N0_j N1_j aD aC
    try simp only [PT]
    refine ryy [7] ?_
    refine .cons rfl (fun K hK=>?_) .nil
    obtain ⟨z0,z1⟩:=aS.out.cells
    have y0:=aS.out.frozen 0
    have y1:=aS.out.frozen 1
    have z9:=aS.out.lt
    go_simp
    obtain ⟨v2,hV⟩:=nmz (World.setCell (World.setCell v1 ⟨gy,0,none⟩ (.bool s4b)) ⟨gy,1,none⟩ (.slice A4b n4b c4b))
    rw [hV]
    have dS:=hJ (show Below w1.heap.size w1 v2 by rw [←hV]; exact below_box cP.out (aJ.out) _ _)
    have a_2:=hJ (show PF v2 sa Aa na ca sb Ab nb cb p q by rw [←hV]; exact PF.box (a_1.out) (aS.out) (.bool s4b) (.slice A4b n4b c4b))
    have b_2:=hJ (show PF v2 sd Ad nd cd se Ae ne ce r s by rw [←hV]; exact PF.box (b_1.out) (aS.out) (.bool s4b) (.slice A4b n4b c4b))
    have N0_2:=hJ (show PI v2 s4a A4a n4a c4a (q) by rw [←hV]; exact PIo.box (N0_1.out) (aS.out) rfl rfl (.bool s4b) (.slice A4b n4b c4b))
    have N1_2:=hJ (show PI v2 s4b A4b n4b c4b (s) by rw [←hV]; exact PIo.box (N1_1.out) (aS.out) rfl rfl (.bool s4b) (.slice A4b n4b c4b))
    have gN:=hJ (show P2 33 v2 gx (.bool s4a) (.slice A4a n4a c4a) by rw [←hV]; exact dR.out.far2 (show gx≠gy from bG.out) (.bool s4b) (.slice A4b n4b c4b))
    have gO:=hJ (show P2 33 v2 gy (.bool s4b) (.slice A4b n4b c4b) by rw [←hV]; exact aS.out.all (.bool s4b) (.slice A4b n4b c4b))
    clear hHeld
    refine hK.out _ _ (aB.out _ dS.out) (fun hHeld=>?_)
    clear hK K hV z9 z0 z1 y0 y1 cP a_1 b_1 N0_1 N1_1 dR aS
    try simp only [PT]
    refine wpAnyH_done (by kernel_rfl) ?_ _
    clear hHeld
    go_wp2_with fail
    go_meet
    exact ⟨gx,gy,s4a,A4a,n4a,c4a,s4b,A4b,n4b,c4b,rfl,rfl,gN.out,gO.out,N0_2.out,N1_2.out,dS.out⟩
   have cD:∀ (s4a:Bool) (A4a:Option Addr) (n4a:Nat) (c4a:Nat) (s4b:Bool) (A4b:Option Addr) (n4b:Nat) (c4b:Nat) (gx:Nat) (v:World),Hid (Below w1.heap.size w1 v)→Hid (PF v sa Aa na ca sb Ab nb cb p q)→Hid (PF v sd Ad nd cd se Ae ne ce r s)→Hid (PI v s4a A4a n4a c4a (q))→Hid (PI v s4b A4b n4b c4b (s))→Hid (P2 33 v gx (.bool false) (.slice none 0 0))→Hid (w1.heap.size≤gx)→F 3 (Array.setIfInBounds (Array.setIfInBounds (Array.setIfInBounds L0 1 true) 3 true) 4 true) (Act.put (Act.put (Act.put a0 (some 23) (.agg #[.bool s4a,.slice A4a n4a c4a])) (some 25) (.agg #[.bool s4b,.slice A4b n4b c4b])) (some 5) (.pointer (some ⟨gx,0,none⟩))) v:=by
    intro s4a A4a n4a c4a s4b A4b n4b c4b gx v aA a_j b_j N0_j N1_j aC aI
    subst hF ha0 hL0
    simp only [PT] at bF ⊢
    have hHeld:=aB.out _ aA.out
    refine ryy [5] ?_
    refine .cons rfl (fun K hK=>?_) .nil
    go_simp
    have aX:=hJ ((Below.refl v.heap.size v).alloc (Nat.le_refl _) (.cells #[.bool false,.slice none 0 0] 33))
    have cQ:=hJ (P2.lit v 33 (.bool false) (.slice none 0 0))
    obtain ⟨v3,hV⟩:=nmz (World.alloc v (.cells #[.bool false,.slice none 0 0] 33))
    obtain ⟨gy,hg⟩:=nmz (v.heap.size)
    rw [hV] at aX cQ  ⊢
    rw [hg] at cQ  ⊢
    have aO:=hJ (show w1.heap.size≤gy by rw [←hg]; exact aA.out.size)
    have bS:=hJ (show gx≠gy by have:=aC.out.lt; rw [hg] at this; omega)
    have dT:=hJ (bt aA.out aX.out)
    have a_3:=hJ ((a_j.out).new aX.out)
    have b_3:=hJ ((b_j.out).new aX.out)
    have N0_3:=hJ (PIo.new N0_j.out aX.out)
    have N1_3:=hJ (PIo.new N1_j.out aX.out)
    have gP:=hJ (aC.out.new aX.out)
    clear hHeld
    refine hK.out _ _ (aB.out _ dT.out) (fun hHeld=>?_)
    clear hK K hV hg aX aA a_j b_j N0_j N1_j aC
    try simp only [PT]
    exact wpAnyH_cast (by kernel_rfl) (bF s4a A4a n4a c4a s4b A4b n4b c4b gx gy v3 dT a_3 b_3 N0_3 N1_3 gP (hJ (aI.out)) cQ (hJ (aO.out)) (hJ (bS.out)))
   have cE:∀ (s4a:Bool) (A4a:Option Addr) (n4a:Nat) (c4a:Nat) (s4b:Bool) (A4b:Option Addr) (n4b:Nat) (c4b:Nat) (gy:Nat) (v:World),Hid (Below w1.heap.size w1 v)→Hid (PF v sa Aa na ca sb Ab nb cb p q)→Hid (PF v sd Ad nd cd se Ae ne ce r s)→Hid (PI v s4a A4a n4a c4a (q))→Hid (PI v s4b A4b n4b c4b (s))→Hid (P2 33 v gy (.bool false) (.slice none 0 0))→Hid (w1.heap.size≤gy)→F 3 (Array.setIfInBounds (Array.setIfInBounds (Array.setIfInBounds L0 1 true) 3 true) 5 true) (Act.put (Act.put (Act.put a0 (some 23) (.agg #[.bool s4a,.slice A4a n4a c4a])) (some 25) (.agg #[.bool s4b,.slice A4b n4b c4b])) (some 6) (.pointer (some ⟨gy,0,none⟩))) v:=by
    intro s4a A4a n4a c4a s4b A4b n4b c4b gy v aA a_j b_j N0_j N1_j aD aJ
    subst hF ha0 hL0
    simp only [PT] at bF ⊢
    have hHeld:=aB.out _ aA.out
    refine ryy [4] ?_
    refine .cons rfl (fun K hK=>?_) .nil
    go_simp
    have aY:=hJ ((Below.refl v.heap.size v).alloc (Nat.le_refl _) (.cells #[.bool false,.slice none 0 0] 33))
    have cR:=hJ (P2.lit v 33 (.bool false) (.slice none 0 0))
    obtain ⟨v4,hV⟩:=nmz (World.alloc v (.cells #[.bool false,.slice none 0 0] 33))
    obtain ⟨gx,hg⟩:=nmz (v.heap.size)
    rw [hV] at aY cR  ⊢
    rw [hg] at cR  ⊢
    have aR:=hJ (show w1.heap.size≤gx by rw [←hg]; exact aA.out.size)
    have bT:=hJ (show gy≠gx by have:=aD.out.lt; rw [hg] at this; omega)
    have dU:=hJ (bt aA.out aY.out)
    have a_4:=hJ ((a_j.out).new aY.out)
    have b_4:=hJ ((b_j.out).new aY.out)
    have N0_4:=hJ (PIo.new N0_j.out aY.out)
    have N1_4:=hJ (PIo.new N1_j.out aY.out)
    have gQ:=hJ (aD.out.new aY.out)
    clear hHeld
    refine hK.out _ _ (aB.out _ dU.out) (fun hHeld=>?_)
    clear hK K hV hg aY aA a_j b_j N0_j N1_j aD
    try simp only [PT]
    exact wpAnyH_cast (by kernel_rfl) (bF s4a A4a n4a c4a s4b A4b n4b c4b gx gy v4 dU a_4 b_4 N0_4 N1_4 cR (hJ (aR.out)) gQ (hJ (aJ.out)) (hJ (bT.out.symm)))
   have bH:∀ (s4a:Bool) (A4a:Option Addr) (n4a:Nat) (c4a:Nat) (gx:Nat) (gy:Nat) (v:World),Hid (Below w1.heap.size w1 v)→Hid (PF v sa Aa na ca sb Ab nb cb p q)→Hid (PF v sd Ad nd cd se Ae ne ce r s)→Hid (PI v s4a A4a n4a c4a (q))→Hid (P2 33 v gx (.bool false) (.slice none 0 0))→Hid (w1.heap.size≤gx)→Hid (P2 33 v gy (.bool false) (.slice none 0 0))→Hid (w1.heap.size≤gy)→Hid (gx≠gy)→F 3 (Array.setIfInBounds (Array.setIfInBounds (Array.setIfInBounds L0 1 true) 4 true) 5 true) (Act.put (Act.put (Act.put a0 (some 23) (.agg #[.bool s4a,.slice A4a n4a c4a])) (some 5) (.pointer (some ⟨gx,0,none⟩))) (some 6) (.pointer (some ⟨gy,0,none⟩))) v:=by
    intro s4a A4a n4a c4a gx gy v aA a_j b_j N0_j aC aI aD aJ bG
    subst hF ha0 hL0
    simp only [PT] at bF ⊢
    have hHeld:=aB.out _ aA.out
    refine ryy [3] ?_
    refine .cons rfl (fun K hK=>?_) .nil
    go_simp
    go_at_call_of 90 (#[Value.agg #[.bool sd,.slice Ad nd cd,.bool se,.slice Ae ne ce]])
    refine (den_any r s sd se Ad Ae nd cd ne ce v (b_j.out) (by omega) aG.out.2.1).mono ?_
    rintro e v5 ⟨s4b,A4b,n4b,c4b,rfl,hr,hk⟩
    have N1_5:=hJ (hr)
    have aZ:=hJ hk
    go_wp2_with fail
    have dW:=hJ (bt aA.out aZ.out)
    have a_5:=hJ ((a_j.out).new aZ.out)
    have b_5:=hJ ((b_j.out).new aZ.out)
    have N0_5:=hJ (PIo.new N0_j.out aZ.out)
    have gR:=hJ (aC.out.new aZ.out)
    have gS:=hJ (aD.out.new aZ.out)
    clear hHeld
    refine hK.out _ _ (aB.out _ dW.out) (fun hHeld=>?_)
    clear hK K hk aZ hr aA a_j b_j N0_j aC aD
    try simp only [PT]
    exact wpAnyH_cast (by kernel_rfl) (bF s4a A4a n4a c4a s4b A4b n4b c4b gx gy v5 dW a_5 b_5 N0_5 N1_5 gR (hJ (aI.out)) gS (hJ (aJ.out)) (hJ (bG.out)))
   have dX:∀ (s4a:Bool) (A4a:Option Addr) (n4a:Nat) (c4a:Nat) (s4b:Bool) (A4b:Option Addr) (n4b:Nat) (c4b:Nat) (v:World),Hid (Below w1.heap.size w1 v)→Hid (PF v sa Aa na ca sb Ab nb cb p q)→Hid (PF v sd Ad nd cd se Ae ne ce r s)→Hid (PI v s4a A4a n4a c4a (q))→Hid (PI v s4b A4b n4b c4b (s))→F 4 (Array.setIfInBounds (Array.setIfInBounds L0 1 true) 3 true) (Act.put (Act.put a0 (some 23) (.agg #[.bool s4a,.slice A4a n4a c4a])) (some 25) (.agg #[.bool s4b,.slice A4b n4b c4b])) v:=by
    intro s4a A4a n4a c4a s4b A4b n4b c4b v aA a_j b_j N0_j N1_j
    subst hF ha0 hL0
    simp only [PT] at cD cE ⊢
    have hHeld:=aB.out _ aA.out
    refine ryy [4,5] ?_
    refine .cons rfl (fun K hK=>?_) ?_
    go_simp
    have bA:=hJ ((Below.refl v.heap.size v).alloc (Nat.le_refl _) (.cells #[.bool false,.slice none 0 0] 33))
    have cS:=hJ (P2.lit v 33 (.bool false) (.slice none 0 0))
    obtain ⟨v6,hV⟩:=nmz (World.alloc v (.cells #[.bool false,.slice none 0 0] 33))
    obtain ⟨gx,hg⟩:=nmz (v.heap.size)
    rw [hV] at bA cS  ⊢
    rw [hg] at cS  ⊢
    have aR:=hJ (show w1.heap.size≤gx by rw [←hg]; exact aA.out.size)
    have dY:=hJ (bt aA.out bA.out)
    have a_6:=hJ ((a_j.out).new bA.out)
    have b_6:=hJ ((b_j.out).new bA.out)
    have N0_6:=hJ (PIo.new N0_j.out bA.out)
    have N1_6:=hJ (PIo.new N1_j.out bA.out)
    clear hHeld
    refine hK.out _ _ (aB.out _ dY.out) (fun hHeld=>?_)
    clear hK K hV hg bA aA a_j b_j N0_j N1_j
    try simp only [PT]
    exact wpAnyH_cast (by kernel_rfl) (cD s4a A4a n4a c4a s4b A4b n4b c4b gx v6 dY a_6 b_6 N0_6 N1_6 cS (hJ (aR.out)))
    refine .cons rfl (fun K hK=>?_) .nil
    go_simp
    have bB:=hJ ((Below.refl v.heap.size v).alloc (Nat.le_refl _) (.cells #[.bool false,.slice none 0 0] 33))
    have cT:=hJ (P2.lit v 33 (.bool false) (.slice none 0 0))
    obtain ⟨v7,hV⟩:=nmz (World.alloc v (.cells #[.bool false,.slice none 0 0] 33))
    obtain ⟨gy,hg⟩:=nmz (v.heap.size)
    rw [hV] at bB cT  ⊢
    rw [hg] at cT  ⊢
    have aO:=hJ (show w1.heap.size≤gy by rw [←hg]; exact aA.out.size)
    have dZ:=hJ (bt aA.out bB.out)
    have a_7:=hJ ((a_j.out).new bB.out)
    have b_7:=hJ ((b_j.out).new bB.out)
    have N0_7:=hJ (PIo.new N0_j.out bB.out)
    have N1_7:=hJ (PIo.new N1_j.out bB.out)
    clear hHeld
    refine hK.out _ _ (aB.out _ dZ.out) (fun hHeld=>?_)
    clear hK K hV hg bB aA a_j b_j N0_j N1_j
    try simp only [PT]
    exact wpAnyH_cast (by kernel_rfl) (cE s4a A4a n4a c4a s4b A4b n4b c4b gy v7 dZ a_7 b_7 N0_7 N1_7 cT (hJ (aO.out)))
   have cF:∀ (s4a:Bool) (A4a:Option Addr) (n4a:Nat) (c4a:Nat) (gx:Nat) (v:World),Hid (Below w1.heap.size w1 v)→Hid (PF v sa Aa na ca sb Ab nb cb p q)→Hid (PF v sd Ad nd cd se Ae ne ce r s)→Hid (PI v s4a A4a n4a c4a (q))→Hid (P2 33 v gx (.bool false) (.slice none 0 0))→Hid (w1.heap.size≤gx)→F 4 (Array.setIfInBounds (Array.setIfInBounds L0 1 true) 4 true) (Act.put (Act.put a0 (some 23) (.agg #[.bool s4a,.slice A4a n4a c4a])) (some 5) (.pointer (some ⟨gx,0,none⟩))) v:=by
    intro s4a A4a n4a c4a gx v aA a_j b_j N0_j aC aI
    subst hF ha0 hL0
    simp only [PT] at cD bH ⊢
    have hHeld:=aB.out _ aA.out
    refine ryy [3,5] ?_
    refine .cons rfl (fun K hK=>?_) ?_
    go_simp
    go_at_call_of 90 (#[Value.agg #[.bool sd,.slice Ad nd cd,.bool se,.slice Ae ne ce]])
    refine (den_any r s sd se Ad Ae nd cd ne ce v (b_j.out) (by omega) aG.out.2.1).mono ?_
    rintro e v8 ⟨s4b,A4b,n4b,c4b,rfl,hr,hk⟩
    have N1_8:=hJ (hr)
    have bJ:=hJ hk
    go_wp2_with fail
    have eA:=hJ (bt aA.out bJ.out)
    have a_8:=hJ ((a_j.out).new bJ.out)
    have b_8:=hJ ((b_j.out).new bJ.out)
    have N0_8:=hJ (PIo.new N0_j.out bJ.out)
    have gT:=hJ (aC.out.new bJ.out)
    clear hHeld
    refine hK.out _ _ (aB.out _ eA.out) (fun hHeld=>?_)
    clear hK K hk bJ hr aA a_j b_j N0_j aC
    try simp only [PT]
    exact wpAnyH_cast (by kernel_rfl) (cD s4a A4a n4a c4a s4b A4b n4b c4b gx v8 eA a_8 b_8 N0_8 N1_8 gT (hJ (aI.out)))
    refine .cons rfl (fun K hK=>?_) .nil
    go_simp
    have bC:=hJ ((Below.refl v.heap.size v).alloc (Nat.le_refl _) (.cells #[.bool false,.slice none 0 0] 33))
    have cU:=hJ (P2.lit v 33 (.bool false) (.slice none 0 0))
    obtain ⟨v9,hV⟩:=nmz (World.alloc v (.cells #[.bool false,.slice none 0 0] 33))
    obtain ⟨gy,hg⟩:=nmz (v.heap.size)
    rw [hV] at bC cU  ⊢
    rw [hg] at cU  ⊢
    have aO:=hJ (show w1.heap.size≤gy by rw [←hg]; exact aA.out.size)
    have bS:=hJ (show gx≠gy by have:=aC.out.lt; rw [hg] at this; omega)
    have eB:=hJ (bt aA.out bC.out)
    have a_9:=hJ ((a_j.out).new bC.out)
    have b_9:=hJ ((b_j.out).new bC.out)
    have N0_9:=hJ (PIo.new N0_j.out bC.out)
    have gU:=hJ (aC.out.new bC.out)
    clear hHeld
    refine hK.out _ _ (aB.out _ eB.out) (fun hHeld=>?_)
    clear hK K hV hg bC aA a_j b_j N0_j aC
    try simp only [PT]
    exact wpAnyH_cast (by kernel_rfl) (bH s4a A4a n4a c4a gx gy v9 eB a_9 b_9 N0_9 gU (hJ (aI.out)) cU (hJ (aO.out)) (hJ (bS.out)))
   have cG:∀ (s4a:Bool) (A4a:Option Addr) (n4a:Nat) (c4a:Nat) (gy:Nat) (v:World),Hid (Below w1.heap.size w1 v)→Hid (PF v sa Aa na ca sb Ab nb cb p q)→Hid (PF v sd Ad nd cd se Ae ne ce r s)→Hid (PI v s4a A4a n4a c4a (q))→Hid (P2 33 v gy (.bool false) (.slice none 0 0))→Hid (w1.heap.size≤gy)→F 4 (Array.setIfInBounds (Array.setIfInBounds L0 1 true) 5 true) (Act.put (Act.put a0 (some 23) (.agg #[.bool s4a,.slice A4a n4a c4a])) (some 6) (.pointer (some ⟨gy,0,none⟩))) v:=by
    intro s4a A4a n4a c4a gy v aA a_j b_j N0_j aD aJ
    subst hF ha0 hL0
    simp only [PT] at cE bH ⊢
    have hHeld:=aB.out _ aA.out
    refine ryy [3,4] ?_
    refine .cons rfl (fun K hK=>?_) ?_
    go_simp
    go_at_call_of 90 (#[Value.agg #[.bool sd,.slice Ad nd cd,.bool se,.slice Ae ne ce]])
    refine (den_any r s sd se Ad Ae nd cd ne ce v (b_j.out) (by omega) aG.out.2.1).mono ?_
    rintro e v10 ⟨s4b,A4b,n4b,c4b,rfl,hr,hk⟩
    have N1_10:=hJ (hr)
    have bK:=hJ hk
    go_wp2_with fail
    have eC:=hJ (bt aA.out bK.out)
    have a_10:=hJ ((a_j.out).new bK.out)
    have b_10:=hJ ((b_j.out).new bK.out)
    have N0_10:=hJ (PIo.new N0_j.out bK.out)
    have gV:=hJ (aD.out.new bK.out)
    clear hHeld
    refine hK.out _ _ (aB.out _ eC.out) (fun hHeld=>?_)
    clear hK K hk bK hr aA a_j b_j N0_j aD
    try simp only [PT]
    exact wpAnyH_cast (by kernel_rfl) (cE s4a A4a n4a c4a s4b A4b n4b c4b gy v10 eC a_10 b_10 N0_10 N1_10 gV (hJ (aJ.out)))
    refine .cons rfl (fun K hK=>?_) .nil
    go_simp
    have bD:=hJ ((Below.refl v.heap.size v).alloc (Nat.le_refl _) (.cells #[.bool false,.slice none 0 0] 33))
    have cV:=hJ (P2.lit v 33 (.bool false) (.slice none 0 0))
    obtain ⟨v11,hV⟩:=nmz (World.alloc v (.cells #[.bool false,.slice none 0 0] 33))
    obtain ⟨gx,hg⟩:=nmz (v.heap.size)
    rw [hV] at bD cV  ⊢
    rw [hg] at cV  ⊢
    have aR:=hJ (show w1.heap.size≤gx by rw [←hg]; exact aA.out.size)
    have bT:=hJ (show gy≠gx by have:=aD.out.lt; rw [hg] at this; omega)
    have eD:=hJ (bt aA.out bD.out)
    have a_11:=hJ ((a_j.out).new bD.out)
    have b_11:=hJ ((b_j.out).new bD.out)
    have N0_11:=hJ (PIo.new N0_j.out bD.out)
    have gW:=hJ (aD.out.new bD.out)
    clear hHeld
    refine hK.out _ _ (aB.out _ eD.out) (fun hHeld=>?_)
    clear hK K hV hg bD aA a_j b_j N0_j aD
    try simp only [PT]
    exact wpAnyH_cast (by kernel_rfl) (bH s4a A4a n4a c4a gx gy v11 eD a_11 b_11 N0_11 cV (hJ (aR.out)) gW (hJ (aJ.out)) (hJ (bT.out.symm)))
   have cH:∀ (gx:Nat) (gy:Nat) (v:World),Hid (Below w1.heap.size w1 v)→Hid (PF v sa Aa na ca sb Ab nb cb p q)→Hid (PF v sd Ad nd cd se Ae ne ce r s)→Hid (P2 33 v gx (.bool false) (.slice none 0 0))→Hid (w1.heap.size≤gx)→Hid (P2 33 v gy (.bool false) (.slice none 0 0))→Hid (w1.heap.size≤gy)→Hid (gx≠gy)→F 4 (Array.setIfInBounds (Array.setIfInBounds L0 4 true) 5 true) (Act.put (Act.put a0 (some 5) (.pointer (some ⟨gx,0,none⟩))) (some 6) (.pointer (some ⟨gy,0,none⟩))) v:=by
    intro gx gy v aA a_j b_j aC aI aD aJ bG
    subst hF ha0 hL0
    simp only [PT] at bH ⊢
    have hHeld:=aB.out _ aA.out
    refine ryy [1] ?_
    refine .cons rfl (fun K hK=>?_) .nil
    go_simp
    go_at_call_of 90 (#[Value.agg #[.bool sa,.slice Aa na ca,.bool sb,.slice Ab nb cb]])
    refine (den_any p q sa sb Aa Ab na ca nb cb v (a_j.out) (by omega) aG.out.1).mono ?_
    rintro e v12 ⟨s4a,A4a,n4a,c4a,rfl,hr,hk⟩
    have N0_12:=hJ (hr)
    have bL:=hJ hk
    go_wp2_with fail
    have eE:=hJ (bt aA.out bL.out)
    have a_12:=hJ ((a_j.out).new bL.out)
    have b_12:=hJ ((b_j.out).new bL.out)
    have gX:=hJ (aC.out.new bL.out)
    have gY:=hJ (aD.out.new bL.out)
    clear hHeld
    refine hK.out _ _ (aB.out _ eE.out) (fun hHeld=>?_)
    clear hK K hk bL hr aA a_j b_j aC aD
    try simp only [PT]
    exact wpAnyH_cast (by kernel_rfl) (bH s4a A4a n4a c4a gx gy v12 eE a_12 b_12 N0_12 gX (hJ (aI.out)) gY (hJ (aJ.out)) (hJ (bG.out)))
   have J1:∀ (s4a:Bool) (A4a:Option Addr) (n4a:Nat) (c4a:Nat) (v:World),Hid (Below w1.heap.size w1 v)→Hid (PF v sa Aa na ca sb Ab nb cb p q)→Hid (PF v sd Ad nd cd se Ae ne ce r s)→Hid (PI v s4a A4a n4a c4a (q))→F 5 (Array.setIfInBounds L0 1 true) (Act.put a0 (some 23) (.agg #[.bool s4a,.slice A4a n4a c4a])) v:=by
    intro s4a A4a n4a c4a v aA a_j b_j N0_j
    subst hF ha0 hL0
    simp only [PT] at dX cF cG ⊢
    have hHeld:=aB.out _ aA.out
    refine ryy [3,4,5] ?_
    refine .cons rfl (fun K hK=>?_) ?_
    go_simp
    go_at_call_of 90 (#[Value.agg #[.bool sd,.slice Ad nd cd,.bool se,.slice Ae ne ce]])
    refine (den_any r s sd se Ad Ae nd cd ne ce v (b_j.out) (by omega) aG.out.2.1).mono ?_
    rintro e v13 ⟨s4b,A4b,n4b,c4b,rfl,hr,hk⟩
    have N1_13:=hJ (hr)
    have bU:=hJ hk
    go_wp2_with fail
    have eF:=hJ (bt aA.out bU.out)
    have a_13:=hJ ((a_j.out).new bU.out)
    have b_13:=hJ ((b_j.out).new bU.out)
    have N0_13:=hJ (PIo.new N0_j.out bU.out)
    clear hHeld
    refine hK.out _ _ (aB.out _ eF.out) (fun hHeld=>?_)
    clear hK K hk bU hr aA a_j b_j N0_j
    try simp only [PT]
    exact wpAnyH_cast (by kernel_rfl) (dX s4a A4a n4a c4a s4b A4b n4b c4b v13 eF a_13 b_13 N0_13 N1_13)
    refine .cons rfl (fun K hK=>?_) ?_
    go_simp
    have bM:=hJ ((Below.refl v.heap.size v).alloc (Nat.le_refl _) (.cells #[.bool false,.slice none 0 0] 33))
    have cW:=hJ (P2.lit v 33 (.bool false) (.slice none 0 0))
    obtain ⟨v14,hV⟩:=nmz (World.alloc v (.cells #[.bool false,.slice none 0 0] 33))
    obtain ⟨gx,hg⟩:=nmz (v.heap.size)
    rw [hV] at bM cW  ⊢
    rw [hg] at cW  ⊢
    have aR:=hJ (show w1.heap.size≤gx by rw [←hg]; exact aA.out.size)
    have eG:=hJ (bt aA.out bM.out)
    have a_14:=hJ ((a_j.out).new bM.out)
    have b_14:=hJ ((b_j.out).new bM.out)
    have N0_14:=hJ (PIo.new N0_j.out bM.out)
    clear hHeld
    refine hK.out _ _ (aB.out _ eG.out) (fun hHeld=>?_)
    clear hK K hV hg bM aA a_j b_j N0_j
    try simp only [PT]
    exact wpAnyH_cast (by kernel_rfl) (cF s4a A4a n4a c4a gx v14 eG a_14 b_14 N0_14 cW (hJ (aR.out)))
    refine .cons rfl (fun K hK=>?_) .nil
    go_simp
    have bN:=hJ ((Below.refl v.heap.size v).alloc (Nat.le_refl _) (.cells #[.bool false,.slice none 0 0] 33))
    have cX:=hJ (P2.lit v 33 (.bool false) (.slice none 0 0))
    obtain ⟨v15,hV⟩:=nmz (World.alloc v (.cells #[.bool false,.slice none 0 0] 33))
    obtain ⟨gy,hg⟩:=nmz (v.heap.size)
    rw [hV] at bN cX  ⊢
    rw [hg] at cX  ⊢
    have aO:=hJ (show w1.heap.size≤gy by rw [←hg]; exact aA.out.size)
    have eH:=hJ (bt aA.out bN.out)
    have a_15:=hJ ((a_j.out).new bN.out)
    have b_15:=hJ ((b_j.out).new bN.out)
    have N0_15:=hJ (PIo.new N0_j.out bN.out)
    clear hHeld
    refine hK.out _ _ (aB.out _ eH.out) (fun hHeld=>?_)
    clear hK K hV hg bN aA a_j b_j N0_j
    try simp only [PT]
    exact wpAnyH_cast (by kernel_rfl) (cG s4a A4a n4a c4a gy v15 eH a_15 b_15 N0_15 cX (hJ (aO.out)))
   have J4:∀ (gx:Nat) (v:World),Hid (Below w1.heap.size w1 v)→Hid (PF v sa Aa na ca sb Ab nb cb p q)→Hid (PF v sd Ad nd cd se Ae ne ce r s)→Hid (P2 33 v gx (.bool false) (.slice none 0 0))→Hid (w1.heap.size≤gx)→F 5 (Array.setIfInBounds L0 4 true) (Act.put a0 (some 5) (.pointer (some ⟨gx,0,none⟩))) v:=by
    intro gx v aA a_j b_j aC aI
    subst hF ha0 hL0
    simp only [PT] at cF cH ⊢
    have hHeld:=aB.out _ aA.out
    refine ryy [1,5] ?_
    refine .cons rfl (fun K hK=>?_) ?_
    go_simp
    go_at_call_of 90 (#[Value.agg #[.bool sa,.slice Aa na ca,.bool sb,.slice Ab nb cb]])
    refine (den_any p q sa sb Aa Ab na ca nb cb v (a_j.out) (by omega) aG.out.1).mono ?_
    rintro e v16 ⟨s4a,A4a,n4a,c4a,rfl,hr,hk⟩
    have N0_16:=hJ (hr)
    have bV:=hJ hk
    go_wp2_with fail
    have eI:=hJ (bt aA.out bV.out)
    have a_16:=hJ ((a_j.out).new bV.out)
    have b_16:=hJ ((b_j.out).new bV.out)
    have gZ:=hJ (aC.out.new bV.out)
    clear hHeld
    refine hK.out _ _ (aB.out _ eI.out) (fun hHeld=>?_)
    clear hK K hk bV hr aA a_j b_j aC
    try simp only [PT]
    exact wpAnyH_cast (by kernel_rfl) (cF s4a A4a n4a c4a gx v16 eI a_16 b_16 N0_16 gZ (hJ (aI.out)))
    refine .cons rfl (fun K hK=>?_) .nil
    go_simp
    have bO:=hJ ((Below.refl v.heap.size v).alloc (Nat.le_refl _) (.cells #[.bool false,.slice none 0 0] 33))
    have cY:=hJ (P2.lit v 33 (.bool false) (.slice none 0 0))
    obtain ⟨v17,hV⟩:=nmz (World.alloc v (.cells #[.bool false,.slice none 0 0] 33))
    obtain ⟨gy,hg⟩:=nmz (v.heap.size)
    rw [hV] at bO cY  ⊢
    rw [hg] at cY  ⊢
    have aO:=hJ (show w1.heap.size≤gy by rw [←hg]; exact aA.out.size)
    have bS:=hJ (show gx≠gy by have:=aC.out.lt; rw [hg] at this; omega)
    have eJ:=hJ (bt aA.out bO.out)
    have a_17:=hJ ((a_j.out).new bO.out)
    have b_17:=hJ ((b_j.out).new bO.out)
    have hA:=hJ (aC.out.new bO.out)
    clear hHeld
    refine hK.out _ _ (aB.out _ eJ.out) (fun hHeld=>?_)
    clear hK K hV hg bO aA a_j b_j aC
    try simp only [PT]
    exact wpAnyH_cast (by kernel_rfl) (cH gx gy v17 eJ a_17 b_17 hA (hJ (aI.out)) cY (hJ (aO.out)) (hJ (bS.out)))
   have J5:∀ (gy:Nat) (v:World),Hid (Below w1.heap.size w1 v)→Hid (PF v sa Aa na ca sb Ab nb cb p q)→Hid (PF v sd Ad nd cd se Ae ne ce r s)→Hid (P2 33 v gy (.bool false) (.slice none 0 0))→Hid (w1.heap.size≤gy)→F 5 (Array.setIfInBounds L0 5 true) (Act.put a0 (some 6) (.pointer (some ⟨gy,0,none⟩))) v:=by
    intro gy v aA a_j b_j aD aJ
    subst hF ha0 hL0
    simp only [PT] at cG cH ⊢
    have hHeld:=aB.out _ aA.out
    refine ryy [1,4] ?_
    refine .cons rfl (fun K hK=>?_) ?_
    go_simp
    go_at_call_of 90 (#[Value.agg #[.bool sa,.slice Aa na ca,.bool sb,.slice Ab nb cb]])
    refine (den_any p q sa sb Aa Ab na ca nb cb v (a_j.out) (by omega) aG.out.1).mono ?_
    rintro e v18 ⟨s4a,A4a,n4a,c4a,rfl,hr,hk⟩
    have N0_18:=hJ (hr)
    have bW:=hJ hk
    go_wp2_with fail
    have eK:=hJ (bt aA.out bW.out)
    have a_18:=hJ ((a_j.out).new bW.out)
    have b_18:=hJ ((b_j.out).new bW.out)
    have hB:=hJ (aD.out.new bW.out)
    clear hHeld
    refine hK.out _ _ (aB.out _ eK.out) (fun hHeld=>?_)
    clear hK K hk bW hr aA a_j b_j aD
    try simp only [PT]
    exact wpAnyH_cast (by kernel_rfl) (cG s4a A4a n4a c4a gy v18 eK a_18 b_18 N0_18 hB (hJ (aJ.out)))
    refine .cons rfl (fun K hK=>?_) .nil
    go_simp
    have bP:=hJ ((Below.refl v.heap.size v).alloc (Nat.le_refl _) (.cells #[.bool false,.slice none 0 0] 33))
    have cZ:=hJ (P2.lit v 33 (.bool false) (.slice none 0 0))
    obtain ⟨v19,hV⟩:=nmz (World.alloc v (.cells #[.bool false,.slice none 0 0] 33))
    obtain ⟨gx,hg⟩:=nmz (v.heap.size)
    rw [hV] at bP cZ  ⊢
    rw [hg] at cZ  ⊢
    have aR:=hJ (show w1.heap.size≤gx by rw [←hg]; exact aA.out.size)
    have bT:=hJ (show gy≠gx by have:=aD.out.lt; rw [hg] at this; omega)
    have eL:=hJ (bt aA.out bP.out)
    have a_19:=hJ ((a_j.out).new bP.out)
    have b_19:=hJ ((b_j.out).new bP.out)
    have hC:=hJ (aD.out.new bP.out)
    clear hHeld
    refine hK.out _ _ (aB.out _ eL.out) (fun hHeld=>?_)
    clear hK K hV hg bP aA a_j b_j aD
    try simp only [PT]
    exact wpAnyH_cast (by kernel_rfl) (cH gx gy v19 eL a_19 b_19 cZ (hJ (aR.out)) hC (hJ (aJ.out)) (hJ (bT.out.symm)))
   subst hF ha0 hL0
   simp only [PT] at J1 J4 J5
   refine ryy [1,4,5] ?_
   refine .cons rfl (fun K hK=>?_) ?_
   go_simp
   go_at_call_of 90 (#[Value.agg #[.bool sa,.slice Aa na ca,.bool sb,.slice Ab nb cb]])
   refine (den_any p q sa sb Aa Ab na ca nb cb v0 (a_0.out) (by omega) aG.out.1).mono ?_
   rintro e v20 ⟨s4a,A4a,n4a,c4a,rfl,hr,hk⟩
   have N0_20:=hJ (hr)
   have cI:=hJ hk
   go_wp2_with fail
   have eM:=hJ (bt aM.out cI.out)
   have a_20:=hJ ((a_0.out).new cI.out)
   have b_20:=hJ ((b_0.out).new cI.out)
   clear hHeld
   refine hK.out _ _ (aB.out _ eM.out) (fun hHeld=>?_)
   clear hK K hk cI hr aM a_0 b_0
   try simp only [PT]
   exact wpAnyH_cast (by kernel_rfl) (J1 s4a A4a n4a c4a v20 eM a_20 b_20 N0_20)
   refine .cons rfl (fun K hK=>?_) ?_
   go_simp
   have bX:=hJ ((Below.refl v0.heap.size v0).alloc (Nat.le_refl _) (.cells #[.bool false,.slice none 0 0] 33))
   have dA:=hJ (P2.lit v0 33 (.bool false) (.slice none 0 0))
   obtain ⟨v21,hV⟩:=nmz (World.alloc v0 (.cells #[.bool false,.slice none 0 0] 33))
   obtain ⟨gx,hg⟩:=nmz (v0.heap.size)
   rw [hV] at bX dA  ⊢
   rw [hg] at dA  ⊢
   have aR:=hJ (show w1.heap.size≤gx by rw [←hg]; exact aM.out.size)
   have eN:=hJ (bt aM.out bX.out)
   have a_21:=hJ ((a_0.out).new bX.out)
   have b_21:=hJ ((b_0.out).new bX.out)
   clear hHeld
   refine hK.out _ _ (aB.out _ eN.out) (fun hHeld=>?_)
   clear hK K hV hg bX aM a_0 b_0
   try simp only [PT]
   exact wpAnyH_cast (by kernel_rfl) (J4 gx v21 eN a_21 b_21 dA (hJ (aR.out)))
   refine .cons rfl (fun K hK=>?_) .nil
   go_simp
   have bY:=hJ ((Below.refl v0.heap.size v0).alloc (Nat.le_refl _) (.cells #[.bool false,.slice none 0 0] 33))
   have dB:=hJ (P2.lit v0 33 (.bool false) (.slice none 0 0))
   obtain ⟨v22,hV⟩:=nmz (World.alloc v0 (.cells #[.bool false,.slice none 0 0] 33))
   obtain ⟨gy,hg⟩:=nmz (v0.heap.size)
   rw [hV] at bY dB  ⊢
   rw [hg] at dB  ⊢
   have aO:=hJ (show w1.heap.size≤gy by rw [←hg]; exact aM.out.size)
   have eO:=hJ (bt aM.out bY.out)
   have a_22:=hJ ((a_0.out).new bY.out)
   have b_22:=hJ ((b_0.out).new bY.out)
   clear hHeld
   refine hK.out _ _ (aB.out _ eO.out) (fun hHeld=>?_)
   clear hK K hV hg bY aM a_0 b_0
   try simp only [PT]
   exact wpAnyH_cast (by kernel_rfl) (J5 gy v22 eO a_22 b_22 dB (hJ (aO.out)))
  case rest =>
   obtain ⟨G4,H4,s4a,A4a,n4a,c4a,s4b,A4b,n4b,c4b,rfl,rfl,hq1,hq2,hr1,hr2,hbx⟩:=hcut
   have eP:=hJ hq1
   have dD:=hJ hq2
   have dE:=hJ hr1
   have cJ:=hJ hr2
   have bQ:=hJ hbx
   obtain ⟨x4,rfl⟩:=nm_world hbx
   clear hq1 hq2 hr1 hr2 hbx aB dQ
   have hn4a:n4a≤512:=plim dE.out aG.out.2.2.2.1
   have hn4b:n4b≤512:=plim cJ.out aG.out.2.2.2.2.2
   have dG:=hJ (aV.out.new bQ.out)
   have eQ:=hJ (cB.out.new bQ.out)
   have eR:=hJ (aW.out.new bQ.out)
   have eS:=hJ (cC.out.new bQ.out)
   have eT:=hJ (bt cO.out bQ.out)
   clear aV cB aW cC cO bQ
   obtain ⟨cla0_4,cla1_4,cla2_4,cla3_4⟩:=dG.out.cells
   obtain ⟨cls0_5,cls1_5⟩:=dD.out.cells
   obtain ⟨x5,dH⟩:=nmz (x4.alloc (.cells #[.bool s4b,.slice A4b n4b c4b] 33))
   have aT:=hJ (show Below x4.heap.size x4 x5 by rw [←dH]; exact (Below.refl _ _).alloc (Nat.le_refl _) _)
   have eU:=hJ (show Pel x5 x4.heap.size [s]∧x4.heap.size < x5.heap.size by rw [←dH]; exact ⟨pel_lit1 cJ.out aG.out.2.2.2.2.2,by simp⟩)
   have eV:=hJ (dG.out.new aT.out)
   have dI:=hJ (eQ.out.new aT.out)
   have eW:=hJ (eR.out.new aT.out)
   have eX:=hJ (eS.out.new aT.out)
   have eY:=hJ (eP.out.new aT.out)
   have eZ:=hJ (PIo.new dE.out aT.out)
   have fA:=hJ (dD.out.new aT.out)
   have fB:=hJ (PIo.new cJ.out aT.out)
   have fC:=hJ (bt eT.out aT.out)
   clear dG eQ eR eS eP dE dD cJ eT aT
   go_wp2_with fail
   refine (fproduct_any [s] p sa Aa na ca x4.heap.size 1 x5 dI.out.1 aG.out.2.2.1 eU.out.1 eU.out.2 rfl (by decide)).mono ?_
   rw [(pv_one p s).1,(pv_one p s).2]
   rintro e w6 ⟨s6,A6,n6,c6,rfl,hr6,hb6⟩
   obtain ⟨x6,cK⟩:=nmz (w6.alloc (.cells #[.bool s6,.slice A6 n6 c6] 33))
   have aU:=hJ (show Below x5.heap.size x5 x6 by rw [←cK]; exact hb6.alloc hb6.size _)
   have fD:=hJ (show P2 33 x6 w6.heap.size (.bool s6) (.slice A6 n6 c6) by rw [←cK]; exact P2.lit _ _ _ _)
   have fE:=hJ (show PI x6 s6 A6 n6 c6 (outV (p*s)) by rw [←cK]; exact PIo.new hr6 ((Below.refl _ _).alloc (Nat.le_refl _) _))
   have hn6:n6≤512:=plim hr6 (outV_lim _)
   clear hr6 hb6
   have fF:=hJ (eV.out.new aU.out)
   have fG:=hJ (dI.out.new aU.out)
   have dJ:=hJ (eW.out.new aU.out)
   have fH:=hJ (eX.out.new aU.out)
   have dK:=hJ (eY.out.new aU.out)
   have dL:=hJ (PIo.new eZ.out aU.out)
   have fI:=hJ (fA.out.new aU.out)
   have fJ:=hJ (PIo.new fB.out aU.out)
   have fK:=hJ (bt fC.out aU.out)
   clear eV dI eW eX eY eZ fA fB fC cla0_4 cla1_4 cla2_4 cla3_4 cls0_5 cls1_5 dH aU
   obtain ⟨clb0_6,clb1_6,clb2_6,clb3_6⟩:=dJ.out.cells
   obtain ⟨clq0_7,clq1_7⟩:=dK.out.cells
   obtain ⟨x7,dM⟩:=nmz (x6.alloc (.cells #[.bool s4a,.slice A4a n4a c4a] 33))
   have aK:=hJ (show Below x6.heap.size x6 x7 by rw [←dM]; exact (Below.refl _ _).alloc (Nat.le_refl _) _)
   have fL:=hJ (show Pel x7 x6.heap.size [q]∧x6.heap.size < x7.heap.size by rw [←dM]; exact ⟨pel_lit1 dL.out aG.out.2.2.2.1,by simp⟩)
   have fM:=hJ (fF.out.new aK.out)
   have fN:=hJ (fG.out.new aK.out)
   have fO:=hJ (dJ.out.new aK.out)
   have dN:=hJ (fH.out.new aK.out)
   have fP:=hJ (dK.out.new aK.out)
   have fQ:=hJ (PIo.new dL.out aK.out)
   have fR:=hJ (fI.out.new aK.out)
   have fS:=hJ (PIo.new fJ.out aK.out)
   have fT:=hJ (fD.out.new aK.out)
   have fU:=hJ (PIo.new fE.out aK.out)
   have fV:=hJ (bt fK.out aK.out)
   clear fF fG dJ fH dK dL fI fJ fD fE fK aK
   go_wp2_with fail
   refine (fproduct_any [q] r sd Ad nd cd x6.heap.size 1 x7 dN.out.1 aG.out.2.2.2.2.1 fL.out.1 fL.out.2 rfl (by decide)).mono ?_
   rw [(pv_one r q).1,(pv_one r q).2]
   rintro e w8 ⟨s8,A8,n8,c8,rfl,hr8,hb8⟩
   obtain ⟨x8,dO⟩:=nmz (w8.alloc (.cells #[.bool s8,.slice A8 n8 c8] 33))
   have aL:=hJ (show Below x7.heap.size x7 x8 by rw [←dO]; exact hb8.alloc hb8.size _)
   have fW:=hJ (show P2 33 x8 w8.heap.size (.bool s8) (.slice A8 n8 c8) by rw [←dO]; exact P2.lit _ _ _ _)
   have fX:=hJ (show PI x8 s8 A8 n8 c8 (outV (r*q)) by rw [←dO]; exact PIo.new hr8 ((Below.refl _ _).alloc (Nat.le_refl _) _))
   have hn8:n8≤512:=plim hr8 (outV_lim _)
   clear hr8 hb8
   have fY:=hJ (fM.out.new aL.out)
   have fZ:=hJ (fN.out.new aL.out)
   have gA:=hJ (fO.out.new aL.out)
   have gB:=hJ (dN.out.new aL.out)
   have gC:=hJ (fP.out.new aL.out)
   have gD:=hJ (PIo.new fQ.out aL.out)
   have gE:=hJ (fR.out.new aL.out)
   have gF:=hJ (PIo.new fS.out aL.out)
   have gG:=hJ (fT.out.new aL.out)
   have gH:=hJ (PIo.new fU.out aL.out)
   have gI:=hJ (bt fV.out aL.out)
   clear fM fN fO dN fP fQ fR fS fT fU fV cK clb0_6 clb1_6 clb2_6 clb3_6 clq0_7 clq1_7 dM aL
   obtain ⟨x9,gJ⟩:=nmz (x8.alloc (.cells #[.int .i64 (outC (p*s)),.int .i64 (outC (r*q))] 40))
   have aH:=hJ (show Below x8.heap.size x8 x9 by rw [←gJ]; exact (Below.refl _ _).alloc (Nat.le_refl _) _)
   have hD:=hJ (show Codes x9 x8.heap.size [outC (p*s),outC (r*q)] by rw [←gJ]; exact codes_lit2 _ _)
   have hE:=hJ (fY.out.new aH.out)
   have hG:=hJ (fZ.out.new aH.out)
   have hH:=hJ (gA.out.new aH.out)
   have hI:=hJ (gB.out.new aH.out)
   have hL:=hJ (gC.out.new aH.out)
   have hM:=hJ (PIo.new gD.out aH.out)
   have hN:=hJ (gE.out.new aH.out)
   have hO:=hJ (PIo.new gF.out aH.out)
   have hP:=hJ (gG.out.new aH.out)
   have hQ:=hJ (PIo.new gH.out aH.out)
   have hR:=hJ (fW.out.new aH.out)
   have hS:=hJ (PIo.new fX.out aH.out)
   have gK:=hJ (bt gI.out aH.out)
   clear fY fZ gA gB gC gD gE gF gG gH fW fX gI aH
   go_wp2_with fail
   refine (ferror_any [outC (p*s),outC (r*q)] x8.heap.size 2 x9 hD.out rfl (by decide)).mono ?_
   have dP:=hJ (two_codes (p*s) (r*q))
   obtain ⟨u,hu⟩:∃ u,feV [outC (p*s),outC (r*q)]=u:=⟨_,rfl⟩
   rw [hu] at dP ⊢
   clear hu
   rintro e w' ⟨rfl,rfl⟩
   by_cases hu:u=0
   ·have HE:=hJ (dP.out hu)
    subst hu
    obtain ⟨clleft0_10,clleft1_10⟩:=hP.out.cells
    obtain ⟨clright0_10,clright1_10⟩:=hR.out.cells
    go_wp2_with fail
    refine (pcompare_any (p*s) (r*q) s6 s8 A6 A8 n6 c6 n8 c8 x9 (PIo.eq hQ.out HE.out.1) (PIo.eq hS.out HE.out.2) (by omega) (by omega)).mono ?_
    rintro e w2 ⟨rfl,hb2⟩
    have bR:=hJ (bt gK.out hb2)
    clear hb2
    go_wp2
    go_ret
    exact ⟨rfl,bR.out⟩
   ·have hub:(u == 0)=false:=by simp [hu]
    clear hu dP
    obtain ⟨cla0_11,cla1_11,cla2_11,cla3_11⟩:=hE.out.cells
    obtain ⟨clb0_11,clb1_11,clb2_11,clb3_11⟩:=hH.out.cells
    obtain ⟨clq0_11,clq1_11⟩:=hL.out.cells
    obtain ⟨cls0_11,cls1_11⟩:=hN.out.cells
    go_wp2_with fail
    refine (fparts_any p q r s sa s4a sd s4b Aa A4a Ad A4b na ca n4a c4a nd cd n4b c4b x9 hG.out.1 hM.out hI.out.1 hO.out aG.out.1 aG.out.2.1 aG.out.2.2.1 aG.out.2.2.2.1 aG.out.2.2.2.2.1 aG.out.2.2.2.2.2).mono ?_
    rintro e w2 ⟨rfl,hb2⟩
    have bR:=hJ (bt gK.out hb2)
    clear hb2
    go_wp2
    go_ret
    exact ⟨rfl,bR.out⟩

end Go.Proofs.YtdgicnhadecldaaGreat
