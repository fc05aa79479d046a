/- Mathematics of the areas. No walk. -/
import Derived.Test.YtbgfmegepekapaaGreatEV
import Derived.Test.YtbgfmegepekapaaGreatQL
import Derived.Test.YtbgfmegepekapaaGreatEQ
import Derived.Test.YtbgfmegepekapaaGreatEW
namespace Go.Proofs.YtbgfmegepekapaaGreat
set_option maxRecDepth 100000
set_option maxHeartbeats 12800000
/-- The value of a fraction. -/
def Vq (p q:Int):Rat:=(p:Rat) / (q:Rat)
theorem vq_ne {q:Int} (h:0 < q):(q:Rat)≠0:=by
 intro e
 have:q=0:=by exact_mod_cast e
 omega
theorem ad_rat {p q r s:Int} (h:Low p q) (h':Low r s) (hk:adK p q r s):Low (adP p q r s) (adQ p q r s)∧Vq (adP p q r s) (adQ p q r s)=Vq p q+Vq r s:=by
 obtain ⟨h1,h2⟩:=ad_low h h' hk
 refine ⟨h1,?_⟩
 have n1:=vq_ne h.1
 have n2:=vq_ne h'.1
 have n3:=vq_ne h1.1
 have e:((adP p q r s:Int):Rat)*(q*s)=(p*s+r*q)*(adQ p q r s:Int):=by exact_mod_cast h2
 unfold Vq
 grind
theorem mu_rat {p q r s:Int} (h:Low p q) (h':Low r s) (hk:muK p q r s):Low (muP p q r s) (muQ p q r s)∧Vq (muP p q r s) (muQ p q r s)=Vq p q*Vq r s:=by
 obtain ⟨h1,h2⟩:=mu_low h h' hk
 refine ⟨h1,?_⟩
 have n1:=vq_ne h.1
 have n2:=vq_ne h'.1
 have n3:=vq_ne h1.1
 have e:((muP p q r s:Int):Rat)*(q*s)=p*r*(muQ p q r s:Int):=by exact_mod_cast h2
 unfold Vq
 grind
theorem vq_eq {p q r s:Int} (h:Low p q) (h':Low r s) (e:Vq p q=Vq r s):p=r∧q=s:=by
 refine low_eq h h' ?_
 have n1:=vq_ne h.1
 have n2:=vq_ne h'.1
 unfold Vq at e
 have e2:(p:Rat)*s=r*q:=by grind
 exact_mod_cast e2
theorem vq_neg (p q:Int):Vq (-p) q = - Vq p q:=by
 unfold Vq
 rw [Rat.intCast_neg]
 grind
theorem low_neg {p q:Int} (h:Low p q):Low (-p) q:=⟨h.1,by rw [Int.natAbs_neg]; exact h.2⟩
theorem ad_k {p q r s:Int} (h:adC p q r s=0):adK p q r s:=by
 unfold adC at h
 by_cases e:adK p q r s
 ·exact e
 ·rw [if_neg e] at h; cases h
theorem mu_k {p q r s:Int} (h:muC p q r s=0):muK p q r s:=by
 unfold muC at h
 by_cases e:muK p q r s
 ·exact e
 ·rw [if_neg e] at h; cases h
theorem fe_zero {c:Int} {l:List Int} (h:feV (c :: l)=0):c=0∧feV l=0:=by
 unfold feV at h
 by_cases e:c=0
 ·rw [if_pos e] at h; exact ⟨e,h⟩
 ·rw [if_neg e] at h; exact absurd h e
theorem fe_sev {a b c d e f g:Int} (h:feV [a,b,c,d,e,f,g]=0):a=0∧b=0∧c=0∧d=0∧e=0∧f=0∧g=0:=by
 obtain ⟨h1,h⟩:=fe_zero h
 obtain ⟨h2,h⟩:=fe_zero h
 obtain ⟨h3,h⟩:=fe_zero h
 obtain ⟨h4,h⟩:=fe_zero h
 obtain ⟨h5,h⟩:=fe_zero h
 obtain ⟨h6,h⟩:=fe_zero h
 exact ⟨h1,h2,h3,h4,h5,h6,(fe_zero h).1⟩
/-- The doubled area's value. -/
def arQ (x0 y0 x1 y1 x2 y2:Rat):Rat:=(x1 - x0)*(y2 - y0) - (y1 - y0)*(x2 - x0)
theorem arQ_sum (x0 y0 x1 y1 x2 y2 x3 y3:Rat):arQ x0 y0 x1 y1 x3 y3+arQ x1 y1 x2 y2 x3 y3+arQ x2 y2 x0 y0 x3 y3=arQ x0 y0 x1 y1 x2 y2:=by
 unfold arQ
 grind
theorem area_rat {p0 q0 p1 q1 p2 q2 p3 q3 p4 q4 p5 q5 P0 Q0 C0 P1 Q1 C1 P2 Q2 C2 P3 Q3 C3 P4 Q4 C4 P5 Q5 C5 P6 Q6 C6:Int} (l0:Low p0 q0) (l1:Low p1 q1) (l2:Low p2 q2) (l3:Low p3 q3) (l4:Low p4 q4) (l5:Low p5 q5) (e0:adP p2 q2 (-p0) q0=P0∧adQ p2 q2 (-p0) q0=Q0∧adC p2 q2 (-p0) q0=C0) (e1:adP p5 q5 (-p1) q1=P1∧adQ p5 q5 (-p1) q1=Q1∧adC p5 q5 (-p1) q1=C1) (e2:muP P0 Q0 P1 Q1=P2∧muQ P0 Q0 P1 Q1=Q2∧muC P0 Q0 P1 Q1=C2) (e3:adP p3 q3 (-p1) q1=P3∧adQ p3 q3 (-p1) q1=Q3∧adC p3 q3 (-p1) q1=C3) (e4:adP p4 q4 (-p0) q0=P4∧adQ p4 q4 (-p0) q0=Q4∧adC p4 q4 (-p0) q0=C4) (e5:muP P3 Q3 P4 Q4=P5∧muQ P3 Q3 P4 Q4=Q5∧muC P3 Q3 P4 Q4=C5) (e6:adP P2 Q2 (-P5) Q5=P6∧adQ P2 Q2 (-P5) Q5=Q6∧adC P2 Q2 (-P5) Q5=C6) (h:feV [C0,C1,C2,C3,C4,C5,C6]=0) :
  Low P6 Q6∧Vq P6 Q6=arQ (Vq p0 q0) (Vq p1 q1) (Vq p2 q2) (Vq p3 q3) (Vq p4 q4) (Vq p5 q5):=by
 obtain ⟨c0,c1,c2,c3,c4,c5,c6⟩:=fe_sev h
 obtain ⟨rfl,rfl,z0⟩:=e0
 obtain ⟨rfl,rfl,z1⟩:=e1
 obtain ⟨rfl,rfl,z2⟩:=e2
 obtain ⟨rfl,rfl,z3⟩:=e3
 obtain ⟨rfl,rfl,z4⟩:=e4
 obtain ⟨rfl,rfl,z5⟩:=e5
 obtain ⟨rfl,rfl,z6⟩:=e6
 obtain ⟨a0,v0⟩:=ad_rat l2 (low_neg l0) (ad_k (z0.trans c0))
 obtain ⟨a1,v1⟩:=ad_rat l5 (low_neg l1) (ad_k (z1.trans c1))
 obtain ⟨a2,v2⟩:=mu_rat a0 a1 (mu_k (z2.trans c2))
 obtain ⟨a3,v3⟩:=ad_rat l3 (low_neg l1) (ad_k (z3.trans c3))
 obtain ⟨a4,v4⟩:=ad_rat l4 (low_neg l0) (ad_k (z4.trans c4))
 obtain ⟨a5,v5⟩:=mu_rat a3 a4 (mu_k (z5.trans c5))
 obtain ⟨a6,v6⟩:=ad_rat a2 (low_neg a5) (ad_k (z6.trans c6))
 refine ⟨a6,?_⟩
 rw [v6,vq_neg,v2,v5,v0,v1,v3,v4,vq_neg,vq_neg]
 unfold arQ
 grind
/-- Three areas add up. -/
theorem areas_sum {a b a' b' c d x y:Int} {x0 y0 x1 y1 x2 y2 x3 y3:Rat} (la:Low a b∧Vq a b=arQ x0 y0 x1 y1 x3 y3) (lb:Low a' b'∧Vq a' b'=arQ x1 y1 x2 y2 x3 y3) (lc:Low c d∧Vq c d=arQ x2 y2 x0 y0 x3 y3) (lx:Low x y∧Vq x y=arQ x0 y0 x1 y1 x2 y2) (h1:adC a b a' b'=0) (h2:adC (adP a b a' b') (adQ a b a' b') c d=0) :
  adP (adP a b a' b') (adQ a b a' b') c d=x∧adQ (adP a b a' b') (adQ a b a' b') c d=y:=by
 obtain ⟨u,v⟩:=ad_rat la.1 lb.1 (ad_k h1)
 obtain ⟨u2,v2⟩:=ad_rat u lc.1 (ad_k h2)
 refine vq_eq u2 lx.1 ?_
 rw [v2,v,la.2,lb.2,lc.2,lx.2,arQ_sum]
theorem side_area {p0 q0 p1 q1 p2 q2 p3 q3 p4 q4 p5 q5 P0 Q0 C0 P1 Q1 C1 P2 Q2 C2 P3 Q3 C3 P4 Q4 C4 P5 Q5 C5 P6 Q6 C6:Int} (e0:adP p2 q2 (-p0) q0=P0∧adQ p2 q2 (-p0) q0=Q0∧adC p2 q2 (-p0) q0=C0) (e1:adP p5 q5 (-p1) q1=P1∧adQ p5 q5 (-p1) q1=Q1∧adC p5 q5 (-p1) q1=C1) (e2:muP P0 Q0 P1 Q1=P2∧muQ P0 Q0 P1 Q1=Q2∧muC P0 Q0 P1 Q1=C2) (e3:adP p3 q3 (-p1) q1=P3∧adQ p3 q3 (-p1) q1=Q3∧adC p3 q3 (-p1) q1=C3) (e4:adP p4 q4 (-p0) q0=P4∧adQ p4 q4 (-p0) q0=Q4∧adC p4 q4 (-p0) q0=C4) (e5:muP P3 Q3 P4 Q4=P5∧muQ P3 Q3 P4 Q4=Q5∧muC P3 Q3 P4 Q4=C5) (e6:adP P2 Q2 (-P5) Q5=P6∧adQ P2 Q2 (-P5) Q5=Q6∧adC P2 Q2 (-P5) Q5=C6) :
  siC p0 q0 p1 q1 p2 q2 p3 q3 p4 q4 p5 q5 (feV [C0,C1,C2,C3,C4,C5,C6])=feV [C0,C1,C2,C3,C4,C5,C6]∧siV p0 q0 p1 q1 p2 q2 p3 q3 p4 q4 p5 q5 P6 (feV [C0,C1,C2,C3,C4,C5,C6])=cmpI (feP (feV [C0,C1,C2,C3,C4,C5,C6]) P6) 0:=by
 by_cases hw:pwE p0 q0 p1 q1=0∧pwE p2 q2 p3 q3=0∧pwE p4 q4 p5 q5=0
 ·obtain ⟨⟨a1,a2⟩,_,b0⟩:=pw_zero hw.1
  obtain ⟨⟨a3,a4⟩,_,b1⟩:=pw_zero hw.2.1
  obtain ⟨⟨a5,a6⟩,_,b2⟩:=pw_zero hw.2.2
  subst a1 a2 a3 a4 a5 a6
  have one:∀ x:Int,x.natAbs < B2 64→Vl 64 x 1 x 1:=fun x hx=>⟨⟨by decide,Nat.coprime_one_right _⟩,hx,by unfold B2; decide,by decide,rfl⟩
  have sm:∀ a b:Int,vdP (a,b)=0→a.natAbs < B2 64∧b.natAbs < B2 64:=by
   intro a b h
   obtain ⟨h1,h2⟩:=vd_nk h
   unfold Nk at h1 h2
   exact ⟨Nat.lt_of_le_of_lt (show a.natAbs≤1073741824 by omega) (by unfold B2; decide),Nat.lt_of_le_of_lt (show b.natAbs≤1073741824 by omega) (by unfold B2; decide)⟩
  obtain ⟨s0,s1⟩:=sm _ _ b0
  obtain ⟨s2,s3⟩:=sm _ _ b1
  obtain ⟨s4,s5⟩:=sm _ _ b2
  have hd:(0:Int) < 1∧(0:Int) < 1∧(0:Int) < 1:=by decide
  obtain ⟨h1,h2,h3,_⟩:=area_small hd (one _ s0) (one _ s1) (one _ s2) (one _ s3) (one _ s4) (one _ s5) e0 e1 e2 e3 e4 e5 e6
  obtain ⟨k1,k2⟩:=side_val hd (one _ s0) (one _ s1) (one _ s2) (one _ s3) (one _ s4) (one _ s5) e0 e1 e2 e3 e4 e5 e6
  rw [k1,k2,h1]
  refine ⟨rfl,?_⟩
  unfold feP
  rw [if_pos rfl]
  exact (sgn_small h2.1 (by decide) h3).symm
 ·unfold siC siV
  rw [if_neg hw,if_neg hw]
  exact ⟨rfl,rfl⟩
end Go.Proofs.YtbgfmegepekapaaGreat
namespace Go.Proofs.YtbgfmegepekapaaGreat
set_option maxRecDepth 100000
set_option maxHeartbeats 12800000
open Go.RowKit
attribute [local go_sem ↓] Go.wp_at_zero Go.wp_at_succ
set_option linter.unusedVariables false
set_option linter.unusedSimpArgs false
theorem steps_any (p0 q0 p1 q1 p2 q2 p3 q3 p4 q4 p5 q5 P0 Q0 C0 P1 Q1 C1 P2 Q2 C2 P3 Q3 C3 P4 Q4 C4 P5 Q5 C5 P6 Q6 C6:Int) (s0:Bool) (A0:Option Addr) (n0 c0:Nat) (t0:Bool) (B0:Option Addr) (m0 d0:Nat) (s1:Bool) (A1:Option Addr) (n1 c1:Nat) (t1:Bool) (B1:Option Addr) (m1 d1:Nat) (s2:Bool) (A2:Option Addr) (n2 c2:Nat) (t2:Bool) (B2:Option Addr) (m2 d2:Nat) (s3:Bool) (A3:Option Addr) (n3 c3:Nat) (t3:Bool) (B3:Option Addr) (m3 d3:Nat) (s4:Bool) (A4:Option Addr) (n4 c4:Nat) (t4:Bool) (B4:Option Addr) (m4 d4:Nat) (s5:Bool) (A5:Option Addr) (n5 c5:Nat) (t5:Bool) (B5:Option Addr) (m5 d5:Nat) (w:World) (h0:PF w s0 A0 n0 c0 t0 B0 m0 d0 p0 q0) (h1:PF w s1 A1 n1 c1 t1 B1 m1 d1 p1 q1) (h2:PF w s2 A2 n2 c2 t2 B2 m2 d2 p2 q2) (h3:PF w s3 A3 n3 c3 t3 B3 m3 d3 p3 q3) (h4:PF w s4 A4 n4 c4 t4 B4 m4 d4 p4 q4) (h5:PF w s5 A5 n5 c5 t5 B5 m5 d5 p5 q5) (f0:Fr p0 q0) (f1:Fr p1 q1) (f2:Fr p2 q2) (f3:Fr p3 q3) (f4:Fr p4 q4) (f5:Fr p5 q5) (e0:adP p2 q2 (-p0) q0=P0∧adQ p2 q2 (-p0) q0=Q0∧adC p2 q2 (-p0) q0=C0) (e1:adP p5 q5 (-p1) q1=P1∧adQ p5 q5 (-p1) q1=Q1∧adC p5 q5 (-p1) q1=C1) (e2:muP P0 Q0 P1 Q1=P2∧muQ P0 Q0 P1 Q1=Q2∧muC P0 Q0 P1 Q1=C2) (e3:adP p3 q3 (-p1) q1=P3∧adQ p3 q3 (-p1) q1=Q3∧adC p3 q3 (-p1) q1=C3) (e4:adP p4 q4 (-p0) q0=P4∧adQ p4 q4 (-p0) q0=Q4∧adC p4 q4 (-p0) q0=C4) (e5:muP P3 Q3 P4 Q4=P5∧muQ P3 Q3 P4 Q4=Q5∧muC P3 Q3 P4 Q4=C5) (e6:adP P2 Q2 (-P5) Q5=P6∧adQ P2 Q2 (-P5) Q5=Q6∧adC P2 Q2 (-P5) Q5=C6) :
  Calls Tryz.prog 24 #[.agg #[.bool s0,.slice A0 n0 c0,.bool t0,.slice B0 m0 d0,.bool s1,.slice A1 n1 c1,.bool t1,.slice B1 m1 d1],.agg #[.bool s2,.slice A2 n2 c2,.bool t2,.slice B2 m2 d2,.bool s3,.slice A3 n3 c3,.bool t3,.slice B3 m3 d3],.agg #[.bool s4,.slice A4 n4 c4,.bool t4,.slice B4 m4 d4,.bool s5,.slice A5 n5 c5,.bool t5,.slice B5 m5 d5]] w (RetFE (feP (feV [C0,C1,C2,C3,C4,C5,C6]) P6) (feQ (feV [C0,C1,C2,C3,C4,C5,C6]) Q6) (feV [C0,C1,C2,C3,C4,C5,C6]) w):=by
 have eR:=hJ h0
 have aN:=hJ f0
 have eS:=hJ h1
 have aO:=hJ f1
 have hR:=hJ h2
 have bP:=hJ f2
 have hS:=hJ h3
 have bQ:=hJ f3
 have hT:=hJ h4
 have bR:=hJ f4
 have hU:=hJ h5
 have bS:=hJ f5
 have bF:=hJ e0
 have bG:=hJ e1
 have cC:=hJ e2
 have bH:=hJ e3
 have bJ:=hJ e4
 have cD:=hJ e5
 have bY:=hJ e6
 clear h0 f0 h1 f1 h2 f2 h3 f3 h4 f4 h5 f5 e0 e1 e2 e3 e4 e5 e6
 have cP:=hJ (show Fr P0 Q0 by rw [←bF.out.1,←bF.out.2.1]; exact fr_ad bP.out (fr_neg aN.out))
 have cQ:=hJ (show Fr P1 Q1 by rw [←bG.out.1,←bG.out.2.1]; exact fr_ad bS.out (fr_neg aO.out))
 have bZ:=hJ (show Fr P2 Q2 by rw [←cC.out.1,←cC.out.2.1]; exact fr_mu cP.out cQ.out)
 have cR:=hJ (show Fr P3 Q3 by rw [←bH.out.1,←bH.out.2.1]; exact fr_ad bQ.out (fr_neg aO.out))
 have cS:=hJ (show Fr P4 Q4 by rw [←bJ.out.1,←bJ.out.2.1]; exact fr_ad bR.out (fr_neg aN.out))
 have cA:=hJ (show Fr P5 Q5 by rw [←cD.out.1,←cD.out.2.1]; exact fr_mu cR.out cS.out)
 obtain ⟨x1,cB⟩:=nmz ((((w.alloc (.cells #[.bool s0,.slice A0 n0 c0,.bool t0,.slice B0 m0 d0,.bool s1,.slice A1 n1 c1,.bool t1,.slice B1 m1 d1] 29)).alloc (.cells #[.bool s2,.slice A2 n2 c2,.bool t2,.slice B2 m2 d2,.bool s3,.slice A3 n3 c3,.bool t3,.slice B3 m3 d3] 29)).alloc (.cells #[.bool s4,.slice A4 n4 c4,.bool t4,.slice B4 m4 d4,.bool s5,.slice A5 n5 c5,.bool t5,.slice B5 m5 d5] 29)).alloc (.cells #[.bool false,.slice none 0 0,.bool false,.slice none 0 0] 27))
 have cT:=hJ (show Below w.heap.size w x1 by rw [←cB]; exact (((((Below.refl _ _).alloc (Nat.le_refl _) _).alloc (by simp only [World.size_alloc]; omega) _).alloc (by simp only [World.size_alloc]; omega) _).alloc (by simp only [World.size_alloc]; omega) _))
 have cU:=hJ (show BX 29 x1 w.heap.size #[.bool s0,.slice A0 n0 c0,.bool t0,.slice B0 m0 d0,.bool s1,.slice A1 n1 c1,.bool t1,.slice B1 m1 d1] by rw [←cB]; exact ((((BX.at rfl).alloc _).alloc _).alloc _))
 have eT:=hJ (show BX 29 x1 (w.heap.size+1) #[.bool s2,.slice A2 n2 c2,.bool t2,.slice B2 m2 d2,.bool s3,.slice A3 n3 c3,.bool t3,.slice B3 m3 d3] by rw [←cB]; exact (((BX.at (by simp only [World.size_alloc])).alloc _).alloc _))
 have eU:=hJ (show BX 29 x1 (w.heap.size+2) #[.bool s4,.slice A4 n4 c4,.bool t4,.slice B4 m4 d4,.bool s5,.slice A5 n5 c5,.bool t5,.slice B5 m5 d5] by rw [←cB]; exact ((BX.at (by simp only [World.size_alloc])).alloc _))
 have bK:=hJ (show BX 27 x1 (w.heap.size+3) #[.bool false,.slice none 0 0,.bool false,.slice none 0 0] by rw [←cB]; exact (BX.at (by simp only [World.size_alloc])))
 have bL:=hJ (show w.heap.size≤w.heap.size+3 by omega)
 obtain ⟨hW,hX,hY,hZ⟩:=eT.out.c4 0 1 2 3 rfl rfl rfl rfl
 obtain ⟨iA,iB,iC,iD⟩:=cU.out.c4 0 1 2 3 rfl rfl rfl rfl
 obtain ⟨iE,iF,iG,iH⟩:=eU.out.c4 4 5 6 7 rfl rfl rfl rfl
 obtain ⟨iI,iJ,iK,iL⟩:=cU.out.c4 4 5 6 7 rfl rfl rfl rfl
 obtain ⟨iM,iN,iO,iP⟩:=eT.out.c4 4 5 6 7 rfl rfl rfl rfl
 obtain ⟨iQ,iR,iS,iT⟩:=cU.out.c4 4 5 6 7 rfl rfl rfl rfl
 obtain ⟨iU,iV,iW,iX⟩:=eU.out.c4 0 1 2 3 rfl rfl rfl rfl
 obtain ⟨iY,iZ,jA,jB⟩:=cU.out.c4 0 1 2 3 rfl rfl rfl rfl
 obtain ⟨x34,cY⟩:=nmz (x1.alloc (.cells #[.bool s2,.slice A2 n2 c2,.bool t2,.slice B2 m2 d2,.bool s0,.slice A0 n0 c0,.bool t0,.slice B0 m0 d0,.bool s5,.slice A5 n5 c5,.bool t5,.slice B5 m5 d5,.bool s1,.slice A1 n1 c1,.bool t1,.slice B1 m1 d1,.bool s3,.slice A3 n3 c3,.bool t3,.slice B3 m3 d3,.bool s1,.slice A1 n1 c1,.bool t1,.slice B1 m1 d1,.bool s4,.slice A4 n4 c4,.bool t4,.slice B4 m4 d4,.bool s0,.slice A0 n0 c0,.bool t0,.slice B0 m0 d0] 112))
 have aS:=hJ (show Below x1.heap.size x1 x34 by rw [←cY]; exact ((Below.refl _ _).alloc (Nat.le_refl _) _))
 have eV:=hJ (show BX 112 x34 x1.heap.size #[.bool s2,.slice A2 n2 c2,.bool t2,.slice B2 m2 d2,.bool s0,.slice A0 n0 c0,.bool t0,.slice B0 m0 d0,.bool s5,.slice A5 n5 c5,.bool t5,.slice B5 m5 d5,.bool s1,.slice A1 n1 c1,.bool t1,.slice B1 m1 d1,.bool s3,.slice A3 n3 c3,.bool t3,.slice B3 m3 d3,.bool s1,.slice A1 n1 c1,.bool t1,.slice B1 m1 d1,.bool s4,.slice A4 n4 c4,.bool t4,.slice B4 m4 d4,.bool s0,.slice A0 n0 c0,.bool t0,.slice B0 m0 d0] by rw [←cY]; exact (BX.at rfl))
 go_enter Tryz.func24,Tryz.ntmps24
 go_wp2_with fail
 clear cB hW hX hY hZ iA iB iC iD iE iF iG iH iI iJ iK iL iM iN iO iP iQ iR iS iT iU iV iW iX iY iZ jA jB cY
 obtain ⟨i27,hi27,hz27,hs27,hy27⟩:=info_parts (show (Tryz.prog.info? 27).map (fun i=>(i.zero,i.size,i.bytes))=some (some (.agg #[.bool false,.slice none 0 0,.bool false,.slice none 0 0]),4,64) by kernel_rfl)
 have bM:=hJ (And.intro hi27 (And.intro hz27 (And.intro hs27 hy27)))
 clear hi27 hz27 hs27 hy27
 go_loopw [10,9] (fun tv tx wr=>∃ i:Nat,tv=.int .i64 (i:Int)∧Below x34.heap.size x34 wr∧((i=0∧tx=.slice none 0 0)∨(i=1∧∃ (gx cpx:Nat) (sx0:Bool) (Ax0:Option Addr) (nx0:Nat) (cx0:Nat) (tx0:Bool) (Bx0:Option Addr) (mx0:Nat) (dx0:Nat),tx=.slice (some ⟨gx,0,none⟩) 1 cpx∧Hid (OwnR noU wr x34.heap.size 27 4 (.slice (some ⟨gx,0,none⟩) 1 cpx) 1 [.bool sx0,.slice Ax0 nx0 cx0,.bool tx0,.slice Bx0 mx0 dx0])∧Hid (x34.heap.size≤gx)∧Hid (gx < wr.heap.size)∧Hid (PF wr sx0 Ax0 nx0 cx0 tx0 Bx0 mx0 dx0 P2 Q2)∧Hid (C0=0∧C1=0∧C2=0))∨(i=2∧∃ (gx cpx:Nat) (sx0:Bool) (Ax0:Option Addr) (nx0:Nat) (cx0:Nat) (tx0:Bool) (Bx0:Option Addr) (mx0:Nat) (dx0:Nat) (sx1:Bool) (Ax1:Option Addr) (nx1:Nat) (cx1:Nat) (tx1:Bool) (Bx1:Option Addr) (mx1:Nat) (dx1:Nat),tx=.slice (some ⟨gx,0,none⟩) 2 cpx∧Hid (OwnR noU wr x34.heap.size 27 4 (.slice (some ⟨gx,0,none⟩) 2 cpx) 2 [.bool sx0,.slice Ax0 nx0 cx0,.bool tx0,.slice Bx0 mx0 dx0,.bool sx1,.slice Ax1 nx1 cx1,.bool tx1,.slice Bx1 mx1 dx1])∧Hid (x34.heap.size≤gx)∧Hid (gx < wr.heap.size)∧Hid (PF wr sx0 Ax0 nx0 cx0 tx0 Bx0 mx0 dx0 P2 Q2)∧Hid (PF wr sx1 Ax1 nx1 cx1 tx1 Bx1 mx1 dx1 P5 Q5)∧Hid (C0=0∧C1=0∧C2=0∧C3=0∧C4=0∧C5=0)))) (fun tv _ _=>2 - (intOf tv).toNat)
 case atStart=>exact ⟨0,rfl,Below.refl _ _,.inl ⟨rfl,rfl⟩⟩
 case round =>
  obtain ⟨i35,rfl,hbel,hdis⟩:=hrel
  obtain ⟨wl35,rfl⟩:∃ W:World,W=wr:=⟨_,rfl⟩
  have aM:=hJ hbel
  clear hbel
  rcases hdis with ⟨rfl,rfl⟩ | ⟨rfl,gx,cpx,sx0,Ax0,nx0,cx0,tx0,Bx0,mx0,dx0,rfl,aT,jC,jD,cV,cZ⟩ | ⟨rfl,gx,cpx,sx0,Ax0,nx0,cx0,tx0,Bx0,mx0,dx0,sx1,Ax1,nx1,cx1,tx1,Bx1,mx1,dx1,rfl,aT,jC,jD,cV,eW,cZ⟩
  ·(try rw [show ((0:Nat):Int)=0 from rfl])
   have aI:=hJ (BX.new eV.out aM.out)
   have aU:Hid (∀ w',Below wl35.heap.size wl35 w'→(fun w':World=>w'.cell? ⟨x1.heap.size,0,none⟩=some (.bool s2)∧w'.cell? ⟨x1.heap.size,1,none⟩=some (.slice A2 n2 c2)∧w'.cell? ⟨x1.heap.size,2,none⟩=some (.bool t2)∧w'.cell? ⟨x1.heap.size,3,none⟩=some (.slice B2 m2 d2)∧w'.cell? ⟨x1.heap.size,4,none⟩=some (.bool s0)∧w'.cell? ⟨x1.heap.size,5,none⟩=some (.slice A0 n0 c0)∧w'.cell? ⟨x1.heap.size,6,none⟩=some (.bool t0)∧w'.cell? ⟨x1.heap.size,7,none⟩=some (.slice B0 m0 d0)∧Below wl35.heap.size wl35 w') w'):=hJ (fun w' hb=>⟨(BX.new aI.out hb).cell 0 rfl,(BX.new aI.out hb).cell 1 rfl,(BX.new aI.out hb).cell 2 rfl,(BX.new aI.out hb).cell 3 rfl,(BX.new aI.out hb).cell 4 rfl,(BX.new aI.out hb).cell 5 rfl,(BX.new aI.out hb).cell 6 rfl,(BX.new aI.out hb).cell 7 rfl,hb⟩)
   have aV:=hJ (bt (bt cT.out aS.out) aM.out)
   have eX:=hJ (PF.new hR.out aV.out)
   have eY:=hJ (PF.new eR.out aV.out)
   go_wp2_with fail
   obtain ⟨v36,hv36⟩:=nmz (World.drew wl35)
   have cE:=hJ (show Below wl35.heap.size wl35 v36 by rw [←hv36]; exact (Below.refl _ _).drew)
   refine whd aU hv36 (fun hHeld=>?_)
   clear hv36
   refine tq 0 ?_
   refine tq 1 ?_
   refine tq 2 ?_
   refine tq 3 ?_
   refine tq 4 ?_
   refine tq 5 ?_
   refine tq 6 ?_
   refine tq 7 ?_
   refine tq 8 ?_
   refine tq 9 ?_
   try simp only [PT]
   refine wpAnyH_name (fun F hF a0 ha0 L0 hL0=>?_)
   have aW:∀ (s11:Bool) (A11:Option Addr) (n11:Nat) (c11:Nat) (t11:Bool) (B11:Option Addr) (m11:Nat) (d11:Nat) (aB:Nat) (v:World),Hid (Below wl35.heap.size wl35 v)→Hid (PF v s11 A11 n11 c11 t11 B11 m11 d11 P0 Q0)→Hid (BX 27 v aB #[.bool false,.slice none 0 0,.bool false,.slice none 0 0])→Hid (wl35.heap.size≤aB)→F 2 (Array.setIfInBounds (Array.setIfInBounds (Array.setIfInBounds (Array.setIfInBounds (Array.setIfInBounds L0 10 true) 14 true) 11 true) 12 true) 13 true) (Act.put (Act.put (Act.put (Act.put (Act.put a0 (some 53) (.tuple #[.agg #[.bool s11,.slice A11 n11 c11,.bool t11,.slice B11 m11 d11],.int .i64 C0])) (some 11) (.pointer (some ⟨aB,0,none⟩))) (some 42) (.tuple #[.agg #[.bool s11,.slice A11 n11 c11,.bool t11,.slice B11 m11 d11],.int .i64 C0])) (some 54) (.agg #[.bool s11,.slice A11 n11 c11,.bool t11,.slice B11 m11 d11])) (some 55) (.int .i64 C0)) v:=by
    intro s11 A11 n11 c11 t11 B11 m11 d11 aB v aA dA aF bT
    subst hF ha0 hL0
    simp only [PT] at  ⊢
    have hHeld:=aU.out _ aA.out
    refine ryy [15] ?_
    refine .cons rfl (fun K hK=>?_) .nil
    have z37_0:=aF.out.cell 0 rfl
    have y37_0:=aF.out.frozen 0
    have z37_1:=aF.out.cell 1 rfl
    have y37_1:=aF.out.frozen 1
    have z37_2:=aF.out.cell 2 rfl
    have y37_2:=aF.out.frozen 2
    have z37_3:=aF.out.cell 3 rfl
    have y37_3:=aF.out.frozen 3
    have z37:=aF.out.lt
    go_simp
    obtain ⟨v37,hV⟩:=nmz (World.setCell (World.setCell (World.setCell (World.setCell v ⟨aB,0,none⟩ (.bool s11)) ⟨aB,1,none⟩ (.slice A11 n11 c11)) ⟨aB,2,none⟩ (.bool t11)) ⟨aB,3,none⟩ (.slice B11 m11 d11))
    rw [hV]
    have dB:=hJ (show sto v aB 0 [.bool s11,.slice A11 n11 c11,.bool t11,.slice B11 m11 d11]=v37 from hV)
    clear hV z37 z37_0 y37_0 z37_1 y37_1 z37_2 y37_2 z37_3 y37_3
    have bN:=hJ (show Below wl35.heap.size wl35 v37 by rw [←dB.out]; exact below_sto aA.out bT.out _ _)
    have jE:=hJ (show PF v37 s11 A11 n11 c11 t11 B11 m11 d11 P0 Q0 by rw [←dB.out]; exact PF.sto dA.out aF.out rfl _ _)
    have jF:=hJ (show BX 27 v37 aB #[.bool s11,.slice A11 n11 c11,.bool t11,.slice B11 m11 d11] by rw [←dB.out]; exact BX.put aF.out _ _)
    clear hHeld
    refine hK.out _ _ (aU.out _ bN.out) (fun hHeld=>?_)
    clear hK K
    refine tq 16 ?_
    try simp only [PT]
    refine wpAnyH_done (by kernel_rfl) ?_ _
    clear hHeld
    by_cases hc:C0=0
    ·obtain rfl:=hc
     have aL:=hJ (BX.new aI.out bN.out)
     have aX:Hid (∀ w',Below v37.heap.size v37 w'→(fun w':World=>w'.cell? ⟨x1.heap.size,8,none⟩=some (.bool s5)∧w'.cell? ⟨x1.heap.size,9,none⟩=some (.slice A5 n5 c5)∧w'.cell? ⟨x1.heap.size,10,none⟩=some (.bool t5)∧w'.cell? ⟨x1.heap.size,11,none⟩=some (.slice B5 m5 d5)∧w'.cell? ⟨x1.heap.size,12,none⟩=some (.bool s1)∧w'.cell? ⟨x1.heap.size,13,none⟩=some (.slice A1 n1 c1)∧w'.cell? ⟨x1.heap.size,14,none⟩=some (.bool t1)∧w'.cell? ⟨x1.heap.size,15,none⟩=some (.slice B1 m1 d1)∧Below v37.heap.size v37 w') w'):=hJ (fun w' hb=>⟨(BX.new aL.out hb).cell 8 rfl,(BX.new aL.out hb).cell 9 rfl,(BX.new aL.out hb).cell 10 rfl,(BX.new aL.out hb).cell 11 rfl,(BX.new aL.out hb).cell 12 rfl,(BX.new aL.out hb).cell 13 rfl,(BX.new aL.out hb).cell 14 rfl,(BX.new aL.out hb).cell 15 rfl,hb⟩)
     have aY:=hJ (bt aV.out bN.out)
     have eZ:=hJ (PF.new hU.out aY.out)
     have fA:=hJ (PF.new eS.out aY.out)
     go_wp2_with fail
     obtain ⟨v39,hv39⟩:=nmz (World.drew v37)
     have cF:=hJ (show Below v37.heap.size v37 v39 by rw [←hv39]; exact (Below.refl _ _).drew)
     refine whd aX hv39 (fun hHeld=>?_)
     clear hv39
     refine tq 0 ?_
     refine tq 1 ?_
     refine tq 2 ?_
     refine tq 3 ?_
     refine tq 4 ?_
     refine tq 5 ?_
     refine tq 6 ?_
     refine tq 7 ?_
     refine tq 8 ?_
     refine tq 9 ?_
     try simp only [PT]
     refine wpAnyH_name (fun F hF a0 ha0 L0 hL0=>?_)
     have aZ:∀ (s12:Bool) (A12:Option Addr) (n12:Nat) (c12:Nat) (t12:Bool) (B12:Option Addr) (m12:Nat) (d12:Nat) (aC:Nat) (v:World),Hid (Below v37.heap.size v37 v)→Hid (PF v s12 A12 n12 c12 t12 B12 m12 d12 P1 Q1)→Hid (BX 27 v aC #[.bool false,.slice none 0 0,.bool false,.slice none 0 0])→Hid (v37.heap.size≤aC)→F 2 (Array.setIfInBounds (Array.setIfInBounds (Array.setIfInBounds (Array.setIfInBounds (Array.setIfInBounds L0 10 true) 14 true) 11 true) 12 true) 13 true) (Act.put (Act.put (Act.put (Act.put (Act.put a0 (some 71) (.tuple #[.agg #[.bool s12,.slice A12 n12 c12,.bool t12,.slice B12 m12 d12],.int .i64 C1])) (some 13) (.pointer (some ⟨aC,0,none⟩))) (some 60) (.tuple #[.agg #[.bool s12,.slice A12 n12 c12,.bool t12,.slice B12 m12 d12],.int .i64 C1])) (some 72) (.agg #[.bool s12,.slice A12 n12 c12,.bool t12,.slice B12 m12 d12])) (some 73) (.int .i64 C1)) v:=by
      intro s12 A12 n12 c12 t12 B12 m12 d12 aC v aA dD aG bU
      subst hF ha0 hL0
      simp only [PT] at  ⊢
      have hHeld:=aX.out _ aA.out
      refine ryy [15] ?_
      refine .cons rfl (fun K hK=>?_) .nil
      have z40_0:=aG.out.cell 0 rfl
      have y40_0:=aG.out.frozen 0
      have z40_1:=aG.out.cell 1 rfl
      have y40_1:=aG.out.frozen 1
      have z40_2:=aG.out.cell 2 rfl
      have y40_2:=aG.out.frozen 2
      have z40_3:=aG.out.cell 3 rfl
      have y40_3:=aG.out.frozen 3
      have z40:=aG.out.lt
      go_simp
      obtain ⟨v40,hV⟩:=nmz (World.setCell (World.setCell (World.setCell (World.setCell v ⟨aC,0,none⟩ (.bool s12)) ⟨aC,1,none⟩ (.slice A12 n12 c12)) ⟨aC,2,none⟩ (.bool t12)) ⟨aC,3,none⟩ (.slice B12 m12 d12))
      rw [hV]
      have dE:=hJ (show sto v aC 0 [.bool s12,.slice A12 n12 c12,.bool t12,.slice B12 m12 d12]=v40 from hV)
      clear hV z40 z40_0 y40_0 z40_1 y40_1 z40_2 y40_2 z40_3 y40_3
      have bO:=hJ (show Below v37.heap.size v37 v40 by rw [←dE.out]; exact below_sto aA.out bU.out _ _)
      have jG:=hJ (show PF v40 s12 A12 n12 c12 t12 B12 m12 d12 P1 Q1 by rw [←dE.out]; exact PF.sto dD.out aG.out rfl _ _)
      have jH:=hJ (show BX 27 v40 aC #[.bool s12,.slice A12 n12 c12,.bool t12,.slice B12 m12 d12] by rw [←dE.out]; exact BX.put aG.out _ _)
      clear hHeld
      refine hK.out _ _ (aX.out _ bO.out) (fun hHeld=>?_)
      clear hK K
      refine tq 16 ?_
      try simp only [PT]
      refine wpAnyH_done (by kernel_rfl) ?_ _
      clear hHeld
      by_cases hc:C1=0
      ·obtain rfl:=hc
       have jI:=hJ (BX.new jF.out bO.out)
       obtain ⟨jJ,jK,jL,jM⟩:=jI.out.c4 0 1 2 3 rfl rfl rfl rfl
       obtain ⟨jN,jO,jP,jQ⟩:=jH.out.c4 0 1 2 3 rfl rfl rfl rfl
       have jR:=hJ (PF.new jE.out bO.out)
       go_wp2_with fail
       clear jJ jK jL jM jN jO jP jQ
       refine (fmul_any P0 Q0 P1 Q1 s11 t11 s12 t12 A11 B11 A12 B12 n11 c11 m11 d11 n12 c12 m12 d12 v40 jR.out jG.out cP.out.1.1 cQ.out.1.1 cP.out.2.1 cP.out.2.2 cQ.out.2.1 cQ.out.2.2).mono ?_
       rw [cC.out.1,cC.out.2.1,cC.out.2.2]
       rintro e w50 ⟨s13,A13,n13,c13,t13,B13,m13,d13,rfl,hr13,hb⟩
       have dF:=hJ hb
       have jS:=hJ hr13
       clear hb hr13
       by_cases hc:C2=0
       ·obtain rfl:=hc
        obtain ⟨x51,dG⟩:=nmz (w50.alloc (.cells #[.bool s13,.slice A13 n13 c13,.bool t13,.slice B13 m13 d13] 27))
        have fB:=hJ (show Below w50.heap.size w50 x51 by rw [←dG]; exact ((Below.refl _ _).alloc (Nat.le_refl _) _))
        have jT:=hJ (show BX 27 x51 w50.heap.size #[.bool s13,.slice A13 n13 c13,.bool t13,.slice B13 m13 d13] by rw [←dG]; exact (BX.at rfl))
        obtain ⟨jU,jV,jW,jX⟩:=jT.out.c4 0 1 2 3 rfl rfl rfl rfl
        obtain ⟨x56,dH⟩:=nmz (x51.alloc (.cells #[.bool s13,.slice A13 n13 c13,.bool t13,.slice B13 m13 d13] 27))
        have fC:=hJ (show Below x51.heap.size x51 x56 by rw [←dH]; exact ((Below.refl _ _).alloc (Nat.le_refl _) _))
        have jY:=hJ (show BX 27 x56 x51.heap.size #[.bool s13,.slice A13 n13 c13,.bool t13,.slice B13 m13 d13] by rw [←dH]; exact (BX.at rfl))
        have fD:=hJ (OwnR.nil noU x56 x34.heap.size 27 4)
        have bV:=hJ (bt (bt (bt (bt (bt aM.out bN.out) bO.out) dF.out) fB.out) fC.out)
        go_wp2_with (at_builtin; refine wpList_append_okv noU rfl _ _ 114 rfl x34.heap.size 27 i27 _ 4 64 Tryz.underlying114 bM.out.1 bM.out.2.1 bM.out.2.2.1 bM.out.2.2.2 rfl rfl (by decide) (.slice none 0 0) 0 [] rfl fD.out ⟨x51.heap.size,0,none⟩ 1 1 [.bool s13,.slice A13 n13 c13,.bool t13,.slice B13 m13 d13] rfl rfl (BX.news jY.out) (List.all_eq_true (p:=Value.oneCell')|>.1 rfl) rfl (by unfold maxLen; omega) (by omega) (bV.out).size (by decide) ?_; intro va wa hown hgrow; refine stop_here (fun q cG=>?_))
        clear dG jU jV jW jX dH
        rw [cG.out]
        clear cG q
        have hown:OwnR noU wa x34.heap.size 27 4 va 1 [.bool s13,.slice A13 n13 c13,.bool t13,.slice B13 m13 d13]:=hown
        obtain ⟨fE,fF,rfl,hg1,hg2,hcap,_⟩:=hown.row (by decide)
        obtain ⟨w58,rfl⟩:∃ W,W=wa:=⟨_,rfl⟩
        have jZ:=hJ (show OwnR noU w58 x34.heap.size 27 4 (.slice (some ⟨fE,0,none⟩) 1 fF) 1 [.bool s13,.slice A13 n13 c13,.bool t13,.slice B13 m13 d13] from hown)
        have kA:=hJ hg1
        have kB:=hJ hg2
        have fG:=hJ hgrow
        clear hown hg1 hg2 hgrow hcap
        have dI:=hJ (show Below x34.heap.size x34 w58 from Grew.below bV.out fG.out fD.out (Nat.le_refl _) (bV.out).size)
        have kC:=hJ kB.out
        have dJ:=hJ (bt fB.out fC.out)
        have kD:=hJ (PF.new jS.out dJ.out)
        have kE:=hJ (show PF w58 s13 A13 n13 c13 t13 B13 m13 d13 P2 Q2 from PF.grow kD.out fG.out (fun _=>rfl))
        go_wp2_with fail
        go_roundw
        case rel=>exact ⟨1,by go_num,dI.out,.inr (.inl ⟨rfl,fE,fF,s13,A13,n13,c13,t13,B13,m13,d13,rfl,jZ,kA,kC,hJ kE.out,hJ (by simp)⟩)⟩
        case measure=>simp [intOf] <;> omega
       have hcz:(C2 == 0)=false:=by simp [hc]
       have HV:=hJ (show feV [0,0,C2,C3,C4,C5,C6]=C2 from feV_n hc)
       have HN:=hJ hc
       clear hc
       obtain ⟨x60,fH⟩:=nmz (w50.alloc (.cells #[.bool s13,.slice A13 n13 c13,.bool t13,.slice B13 m13 d13] 27))
       have fI:=hJ (show Below w50.heap.size w50 x60 by rw [←fH]; exact ((Below.refl _ _).alloc (Nat.le_refl _) _))
       have dK:=hJ (bt (bt (bt (bt (bt aS.out aM.out) bN.out) bO.out) dF.out) fI.out)
       have aJ:=hJ (BX.new bK.out dK.out)
       have kF:=aJ.out.frozen 0
       have kG:=aJ.out.cell 0 rfl
       have kH:=aJ.out.frozen 1
       have kI:=aJ.out.cell 1 rfl
       have kJ:=aJ.out.frozen 2
       have kK:=aJ.out.cell 2 rfl
       have kL:=aJ.out.frozen 3
       have kM:=aJ.out.cell 3 rfl
       obtain ⟨x61,fJ⟩:=nmz (World.setCell (World.setCell (World.setCell (World.setCell x60 ⟨w.heap.size+3,0,none⟩ (.bool false)) ⟨w.heap.size+3,1,none⟩ (.slice none 0 0)) ⟨w.heap.size+3,2,none⟩ (.bool false)) ⟨w.heap.size+3,3,none⟩ (.slice none 0 0))
       have fK:=hJ (show sto x60 (w.heap.size+3) 0 [.bool false,.slice none 0 0,.bool false,.slice none 0 0]=x61 from fJ)
       have kN:=hJ (show BX 27 x61 (w.heap.size+3) #[.bool false,.slice none 0 0,.bool false,.slice none 0 0] by rw [←fK.out]; exact BX.put aJ.out _ _)
       have dL:=hJ (show Below w.heap.size w x61 by rw [←fK.out]; exact below_sto (bt (bt (bt aY.out bO.out) dF.out) fI.out) bL.out _ _)
       go_wp2
       clear fH kF kG kH kI kJ kK kL kM fJ
       exact bodyPost_ret (results_cell1 rfl _ _ _ _ _ _ _ rfl kN.out Tryz.underlying27 rfl F_size) rfl (by rw [HV.out,feP,feQ,if_neg HN.out,if_neg HN.out]; exact ⟨false,none,0,0,false,none,0,0,rfl,PF.zero _,dL.out⟩)
      have hcz:(C1 == 0)=false:=by simp [hc]
      have HV:=hJ (show feV [0,C1,C2,C3,C4,C5,C6]=C1 from feV_n hc)
      have HN:=hJ hc
      clear hc
      have dM:=hJ (bt (bt (bt aS.out aM.out) bN.out) bO.out)
      have aK:=hJ (BX.new bK.out dM.out)
      have kO:=aK.out.frozen 0
      have kP:=aK.out.cell 0 rfl
      have kQ:=aK.out.frozen 1
      have kR:=aK.out.cell 1 rfl
      have kS:=aK.out.frozen 2
      have kT:=aK.out.cell 2 rfl
      have kU:=aK.out.frozen 3
      have kV:=aK.out.cell 3 rfl
      obtain ⟨x62,fL⟩:=nmz (World.setCell (World.setCell (World.setCell (World.setCell v40 ⟨w.heap.size+3,0,none⟩ (.bool false)) ⟨w.heap.size+3,1,none⟩ (.slice none 0 0)) ⟨w.heap.size+3,2,none⟩ (.bool false)) ⟨w.heap.size+3,3,none⟩ (.slice none 0 0))
      have fM:=hJ (show sto v40 (w.heap.size+3) 0 [.bool false,.slice none 0 0,.bool false,.slice none 0 0]=x62 from fL)
      have kW:=hJ (show BX 27 x62 (w.heap.size+3) #[.bool false,.slice none 0 0,.bool false,.slice none 0 0] by rw [←fM.out]; exact BX.put aK.out _ _)
      have dN:=hJ (show Below w.heap.size w x62 by rw [←fM.out]; exact below_sto (bt aY.out bO.out) bL.out _ _)
      go_wp2
      clear kO kP kQ kR kS kT kU kV fL
      exact bodyPost_ret (results_cell1 rfl _ _ _ _ _ _ _ rfl kW.out Tryz.underlying27 rfl F_size) rfl (by rw [HV.out,feP,feQ,if_neg HN.out,if_neg HN.out]; exact ⟨false,none,0,0,false,none,0,0,rfl,PF.zero _,dN.out⟩)
     have cH:∀ (s12:Bool) (A12:Option Addr) (n12:Nat) (c12:Nat) (t12:Bool) (B12:Option Addr) (m12:Nat) (d12:Nat) (v:World),Hid (Below v37.heap.size v37 v)→Hid (PF v s12 A12 n12 c12 t12 B12 m12 d12 P1 Q1)→F 3 (Array.setIfInBounds (Array.setIfInBounds (Array.setIfInBounds (Array.setIfInBounds L0 10 true) 11 true) 12 true) 13 true) (Act.put (Act.put (Act.put (Act.put a0 (some 71) (.tuple #[.agg #[.bool s12,.slice A12 n12 c12,.bool t12,.slice B12 m12 d12],.int .i64 C1])) (some 60) (.tuple #[.agg #[.bool s12,.slice A12 n12 c12,.bool t12,.slice B12 m12 d12],.int .i64 C1])) (some 72) (.agg #[.bool s12,.slice A12 n12 c12,.bool t12,.slice B12 m12 d12])) (some 73) (.int .i64 C1)) v:=by
      intro s12 A12 n12 c12 t12 B12 m12 d12 v aA dD
      subst hF ha0 hL0
      simp only [PT] at aZ ⊢
      have hHeld:=aX.out _ aA.out
      refine ryy [14] ?_
      refine .cons rfl (fun K hK=>?_) .nil
      go_simp
      have dO:=hJ ((Below.refl v.heap.size v).alloc (Nat.le_refl _) (.cells #[.bool false,.slice none 0 0,.bool false,.slice none 0 0] 27))
      have dP:=hJ (BX.lit v 27 #[.bool false,.slice none 0 0,.bool false,.slice none 0 0])
      obtain ⟨v63,hV⟩:=nmz (World.alloc v (.cells #[.bool false,.slice none 0 0,.bool false,.slice none 0 0] 27))
      obtain ⟨aC,hg⟩:=nmz (v.heap.size)
      rw [hV] at dO dP ⊢
      rw [hg] at dP ⊢
      have kX:=hJ (show v37.heap.size≤aC by rw [←hg]; exact aA.out.size)
      clear hV hg
      have fN:=hJ (bt aA.out dO.out)
      have kY:=hJ (PF.new dD.out dO.out)
      clear hHeld
      refine hK.out _ _ (aX.out _ fN.out) (fun hHeld=>?_)
      clear hK K
      try simp only [PT]
      exact wpAnyH_cast (by kernel_rfl) (aZ s12 A12 n12 c12 t12 B12 m12 d12 aC v63 fN kY dP kX)
     have cI:∀ (aC:Nat) (v:World),Hid (Below v37.heap.size v37 v)→Hid (BX 27 v aC #[.bool false,.slice none 0 0,.bool false,.slice none 0 0])→Hid (v37.heap.size≤aC)→F 6 (Array.setIfInBounds L0 14 true) (Act.put a0 (some 13) (.pointer (some ⟨aC,0,none⟩))) v:=by
      intro aC v aA aG bU
      subst hF ha0 hL0
      simp only [PT] at aZ ⊢
      have hHeld:=aX.out _ aA.out
      refine ryy [10] ?_
      refine .cons rfl (fun K hK=>?_) .nil
      go_simp
      go_at_call 67
      refine (fsub_any p5 q5 p1 q1 s5 t5 s1 t1 A5 B5 A1 B1 n5 c5 m5 d5 n1 c1 m1 d1 v (PF.new eZ.out aA.out) (PF.new fA.out aA.out) bS.out.1.1 aO.out.1.1 bS.out.2.1 bS.out.2.2 aO.out.2.1 aO.out.2.2).mono ?_
      rw [bG.out.1,bG.out.2.1,bG.out.2.2]
      rintro e v64 ⟨s12,A12,n12,c12,t12,B12,m12,d12,rfl,hr12,hb⟩
      have fO:=hJ hb
      have kZ:=hJ hr12
      clear hb hr12
      go_wp2_with fail
      have fP:=hJ (bt aA.out fO.out)
      have lA:=hJ (BX.new aG.out fO.out)
      clear hHeld
      refine hK.out _ _ (aX.out _ fP.out) (fun hHeld=>?_)
      clear hK K
      refine tq 11 ?_
      refine tq 12 ?_
      refine tq 13 ?_
      try simp only [PT]
      exact wpAnyH_cast (by kernel_rfl) (aZ s12 A12 n12 c12 t12 B12 m12 d12 aC v64 fP kZ lA bU)
     subst hF ha0 hL0
     simp only [PT] at cH cI
     refine ryy [10,14] ?_
     refine .cons rfl (fun K hK=>?_) ?_
     go_simp
     go_at_call 67
     refine (fsub_any p5 q5 p1 q1 s5 t5 s1 t1 A5 B5 A1 B1 n5 c5 m5 d5 n1 c1 m1 d1 v39 (PF.new eZ.out cF.out) (PF.new fA.out cF.out) bS.out.1.1 aO.out.1.1 bS.out.2.1 bS.out.2.2 aO.out.2.1 aO.out.2.2).mono ?_
     rw [bG.out.1,bG.out.2.1,bG.out.2.2]
     rintro e v65 ⟨s12,A12,n12,c12,t12,B12,m12,d12,rfl,hr12,hb⟩
     have lB:=hJ hb
     have lC:=hJ hr12
     clear hb hr12
     go_wp2_with fail
     have fQ:=hJ (bt cF.out lB.out)
     clear hHeld
     refine hK.out _ _ (aX.out _ fQ.out) (fun hHeld=>?_)
     clear hK K
     refine tq 11 ?_
     refine tq 12 ?_
     refine tq 13 ?_
     try simp only [PT]
     exact wpAnyH_cast (by kernel_rfl) (cH s12 A12 n12 c12 t12 B12 m12 d12 v65 fQ lC)
     refine .cons rfl (fun K hK=>?_) .nil
     go_simp
     have fR:=hJ ((Below.refl v39.heap.size v39).alloc (Nat.le_refl _) (.cells #[.bool false,.slice none 0 0,.bool false,.slice none 0 0] 27))
     have dQ:=hJ (BX.lit v39 27 #[.bool false,.slice none 0 0,.bool false,.slice none 0 0])
     obtain ⟨v66,hV⟩:=nmz (World.alloc v39 (.cells #[.bool false,.slice none 0 0,.bool false,.slice none 0 0] 27))
     obtain ⟨aC,hg⟩:=nmz (v39.heap.size)
     rw [hV] at fR dQ ⊢
     rw [hg] at dQ ⊢
     have lD:=hJ (show v37.heap.size≤aC by rw [←hg]; exact cF.out.size)
     clear hV hg
     have fS:=hJ (bt cF.out fR.out)
     clear hHeld
     refine hK.out _ _ (aX.out _ fS.out) (fun hHeld=>?_)
     clear hK K
     try simp only [PT]
     exact wpAnyH_cast (by kernel_rfl) (cI aC v66 fS dQ lD)
    have hcz:(C0 == 0)=false:=by simp [hc]
    have HV:=hJ (show feV [C0,C1,C2,C3,C4,C5,C6]=C0 from feV_n hc)
    have HN:=hJ hc
    clear hc
    have bW:=hJ (bt (bt aS.out aM.out) bN.out)
    have aD:=hJ (BX.new bK.out bW.out)
    have lE:=aD.out.frozen 0
    have lF:=aD.out.cell 0 rfl
    have lG:=aD.out.frozen 1
    have lH:=aD.out.cell 1 rfl
    have lI:=aD.out.frozen 2
    have lJ:=aD.out.cell 2 rfl
    have lK:=aD.out.frozen 3
    have lL:=aD.out.cell 3 rfl
    obtain ⟨x67,fT⟩:=nmz (World.setCell (World.setCell (World.setCell (World.setCell v37 ⟨w.heap.size+3,0,none⟩ (.bool false)) ⟨w.heap.size+3,1,none⟩ (.slice none 0 0)) ⟨w.heap.size+3,2,none⟩ (.bool false)) ⟨w.heap.size+3,3,none⟩ (.slice none 0 0))
    have fU:=hJ (show sto v37 (w.heap.size+3) 0 [.bool false,.slice none 0 0,.bool false,.slice none 0 0]=x67 from fT)
    have lM:=hJ (show BX 27 x67 (w.heap.size+3) #[.bool false,.slice none 0 0,.bool false,.slice none 0 0] by rw [←fU.out]; exact BX.put aD.out _ _)
    have bX:=hJ (show Below w.heap.size w x67 by rw [←fU.out]; exact below_sto (bt aV.out bN.out) bL.out _ _)
    go_wp2
    clear lE lF lG lH lI lJ lK lL fT
    exact bodyPost_ret (results_cell1 rfl _ _ _ _ _ _ _ rfl lM.out Tryz.underlying27 rfl F_size) rfl (by rw [HV.out,feP,feQ,if_neg HN.out,if_neg HN.out]; exact ⟨false,none,0,0,false,none,0,0,rfl,PF.zero _,bX.out⟩)
   have cJ:∀ (s11:Bool) (A11:Option Addr) (n11:Nat) (c11:Nat) (t11:Bool) (B11:Option Addr) (m11:Nat) (d11:Nat) (v:World),Hid (Below wl35.heap.size wl35 v)→Hid (PF v s11 A11 n11 c11 t11 B11 m11 d11 P0 Q0)→F 3 (Array.setIfInBounds (Array.setIfInBounds (Array.setIfInBounds (Array.setIfInBounds L0 10 true) 11 true) 12 true) 13 true) (Act.put (Act.put (Act.put (Act.put a0 (some 53) (.tuple #[.agg #[.bool s11,.slice A11 n11 c11,.bool t11,.slice B11 m11 d11],.int .i64 C0])) (some 42) (.tuple #[.agg #[.bool s11,.slice A11 n11 c11,.bool t11,.slice B11 m11 d11],.int .i64 C0])) (some 54) (.agg #[.bool s11,.slice A11 n11 c11,.bool t11,.slice B11 m11 d11])) (some 55) (.int .i64 C0)) v:=by
    intro s11 A11 n11 c11 t11 B11 m11 d11 v aA dA
    subst hF ha0 hL0
    simp only [PT] at aW ⊢
    have hHeld:=aU.out _ aA.out
    refine ryy [14] ?_
    refine .cons rfl (fun K hK=>?_) .nil
    go_simp
    have dR:=hJ ((Below.refl v.heap.size v).alloc (Nat.le_refl _) (.cells #[.bool false,.slice none 0 0,.bool false,.slice none 0 0] 27))
    have dS:=hJ (BX.lit v 27 #[.bool false,.slice none 0 0,.bool false,.slice none 0 0])
    obtain ⟨v68,hV⟩:=nmz (World.alloc v (.cells #[.bool false,.slice none 0 0,.bool false,.slice none 0 0] 27))
    obtain ⟨aB,hg⟩:=nmz (v.heap.size)
    rw [hV] at dR dS ⊢
    rw [hg] at dS ⊢
    have lN:=hJ (show wl35.heap.size≤aB by rw [←hg]; exact aA.out.size)
    clear hV hg
    have fV:=hJ (bt aA.out dR.out)
    have lO:=hJ (PF.new dA.out dR.out)
    clear hHeld
    refine hK.out _ _ (aU.out _ fV.out) (fun hHeld=>?_)
    clear hK K
    try simp only [PT]
    exact wpAnyH_cast (by kernel_rfl) (aW s11 A11 n11 c11 t11 B11 m11 d11 aB v68 fV lO dS lN)
   have cK:∀ (aB:Nat) (v:World),Hid (Below wl35.heap.size wl35 v)→Hid (BX 27 v aB #[.bool false,.slice none 0 0,.bool false,.slice none 0 0])→Hid (wl35.heap.size≤aB)→F 6 (Array.setIfInBounds L0 14 true) (Act.put a0 (some 11) (.pointer (some ⟨aB,0,none⟩))) v:=by
    intro aB v aA aF bT
    subst hF ha0 hL0
    simp only [PT] at aW ⊢
    have hHeld:=aU.out _ aA.out
    refine ryy [10] ?_
    refine .cons rfl (fun K hK=>?_) .nil
    go_simp
    go_at_call 67
    refine (fsub_any p2 q2 p0 q0 s2 t2 s0 t0 A2 B2 A0 B0 n2 c2 m2 d2 n0 c0 m0 d0 v (PF.new eX.out aA.out) (PF.new eY.out aA.out) bP.out.1.1 aN.out.1.1 bP.out.2.1 bP.out.2.2 aN.out.2.1 aN.out.2.2).mono ?_
    rw [bF.out.1,bF.out.2.1,bF.out.2.2]
    rintro e v69 ⟨s11,A11,n11,c11,t11,B11,m11,d11,rfl,hr11,hb⟩
    have fW:=hJ hb
    have lP:=hJ hr11
    clear hb hr11
    go_wp2_with fail
    have fX:=hJ (bt aA.out fW.out)
    have lQ:=hJ (BX.new aF.out fW.out)
    clear hHeld
    refine hK.out _ _ (aU.out _ fX.out) (fun hHeld=>?_)
    clear hK K
    refine tq 11 ?_
    refine tq 12 ?_
    refine tq 13 ?_
    try simp only [PT]
    exact wpAnyH_cast (by kernel_rfl) (aW s11 A11 n11 c11 t11 B11 m11 d11 aB v69 fX lP lQ bT)
   subst hF ha0 hL0
   simp only [PT] at cJ cK
   refine ryy [10,14] ?_
   refine .cons rfl (fun K hK=>?_) ?_
   go_simp
   go_at_call 67
   refine (fsub_any p2 q2 p0 q0 s2 t2 s0 t0 A2 B2 A0 B0 n2 c2 m2 d2 n0 c0 m0 d0 v36 (PF.new eX.out cE.out) (PF.new eY.out cE.out) bP.out.1.1 aN.out.1.1 bP.out.2.1 bP.out.2.2 aN.out.2.1 aN.out.2.2).mono ?_
   rw [bF.out.1,bF.out.2.1,bF.out.2.2]
   rintro e v70 ⟨s11,A11,n11,c11,t11,B11,m11,d11,rfl,hr11,hb⟩
   have lR:=hJ hb
   have lS:=hJ hr11
   clear hb hr11
   go_wp2_with fail
   have fY:=hJ (bt cE.out lR.out)
   clear hHeld
   refine hK.out _ _ (aU.out _ fY.out) (fun hHeld=>?_)
   clear hK K
   refine tq 11 ?_
   refine tq 12 ?_
   refine tq 13 ?_
   try simp only [PT]
   exact wpAnyH_cast (by kernel_rfl) (cJ s11 A11 n11 c11 t11 B11 m11 d11 v70 fY lS)
   refine .cons rfl (fun K hK=>?_) .nil
   go_simp
   have fZ:=hJ ((Below.refl v36.heap.size v36).alloc (Nat.le_refl _) (.cells #[.bool false,.slice none 0 0,.bool false,.slice none 0 0] 27))
   have dT:=hJ (BX.lit v36 27 #[.bool false,.slice none 0 0,.bool false,.slice none 0 0])
   obtain ⟨v71,hV⟩:=nmz (World.alloc v36 (.cells #[.bool false,.slice none 0 0,.bool false,.slice none 0 0] 27))
   obtain ⟨aB,hg⟩:=nmz (v36.heap.size)
   rw [hV] at fZ dT ⊢
   rw [hg] at dT ⊢
   have lT:=hJ (show wl35.heap.size≤aB by rw [←hg]; exact cE.out.size)
   clear hV hg
   have gA:=hJ (bt cE.out fZ.out)
   clear hHeld
   refine hK.out _ _ (aU.out _ gA.out) (fun hHeld=>?_)
   clear hK K
   try simp only [PT]
   exact wpAnyH_cast (by kernel_rfl) (cK aB v71 gA dT lT)
  ·(try rw [show ((1:Nat):Int)=1 from rfl])
   obtain ⟨rfl,rfl,rfl⟩:=cZ.out
   have aI:=hJ (BX.new eV.out aM.out)
   have bA:Hid (∀ w',Below wl35.heap.size wl35 w'→(fun w':World=>w'.cell? ⟨x1.heap.size,16,none⟩=some (.bool s3)∧w'.cell? ⟨x1.heap.size,17,none⟩=some (.slice A3 n3 c3)∧w'.cell? ⟨x1.heap.size,18,none⟩=some (.bool t3)∧w'.cell? ⟨x1.heap.size,19,none⟩=some (.slice B3 m3 d3)∧w'.cell? ⟨x1.heap.size,20,none⟩=some (.bool s1)∧w'.cell? ⟨x1.heap.size,21,none⟩=some (.slice A1 n1 c1)∧w'.cell? ⟨x1.heap.size,22,none⟩=some (.bool t1)∧w'.cell? ⟨x1.heap.size,23,none⟩=some (.slice B1 m1 d1)∧Below wl35.heap.size wl35 w') w'):=hJ (fun w' hb=>⟨(BX.new aI.out hb).cell 16 rfl,(BX.new aI.out hb).cell 17 rfl,(BX.new aI.out hb).cell 18 rfl,(BX.new aI.out hb).cell 19 rfl,(BX.new aI.out hb).cell 20 rfl,(BX.new aI.out hb).cell 21 rfl,(BX.new aI.out hb).cell 22 rfl,(BX.new aI.out hb).cell 23 rfl,hb⟩)
   have aV:=hJ (bt (bt cT.out aS.out) aM.out)
   have gB:=hJ (PF.new hS.out aV.out)
   have gC:=hJ (PF.new eS.out aV.out)
   go_wp2_with fail
   obtain ⟨v72,hv72⟩:=nmz (World.drew wl35)
   have cL:=hJ (show Below wl35.heap.size wl35 v72 by rw [←hv72]; exact (Below.refl _ _).drew)
   refine whd bA hv72 (fun hHeld=>?_)
   clear hv72
   refine tq 0 ?_
   refine tq 1 ?_
   refine tq 2 ?_
   refine tq 3 ?_
   refine tq 4 ?_
   refine tq 5 ?_
   refine tq 6 ?_
   refine tq 7 ?_
   refine tq 8 ?_
   refine tq 9 ?_
   try simp only [PT]
   refine wpAnyH_name (fun F hF a0 ha0 L0 hL0=>?_)
   have aW:∀ (s14:Bool) (A14:Option Addr) (n14:Nat) (c14:Nat) (t14:Bool) (B14:Option Addr) (m14:Nat) (d14:Nat) (aB:Nat) (v:World),Hid (Below wl35.heap.size wl35 v)→Hid (PF v s14 A14 n14 c14 t14 B14 m14 d14 P3 Q3)→Hid (BX 27 v aB #[.bool false,.slice none 0 0,.bool false,.slice none 0 0])→Hid (wl35.heap.size≤aB)→F 2 (Array.setIfInBounds (Array.setIfInBounds (Array.setIfInBounds (Array.setIfInBounds (Array.setIfInBounds L0 10 true) 14 true) 11 true) 12 true) 13 true) (Act.put (Act.put (Act.put (Act.put (Act.put a0 (some 53) (.tuple #[.agg #[.bool s14,.slice A14 n14 c14,.bool t14,.slice B14 m14 d14],.int .i64 C3])) (some 11) (.pointer (some ⟨aB,0,none⟩))) (some 42) (.tuple #[.agg #[.bool s14,.slice A14 n14 c14,.bool t14,.slice B14 m14 d14],.int .i64 C3])) (some 54) (.agg #[.bool s14,.slice A14 n14 c14,.bool t14,.slice B14 m14 d14])) (some 55) (.int .i64 C3)) v:=by
    intro s14 A14 n14 c14 t14 B14 m14 d14 aB v aA dU aF bT
    subst hF ha0 hL0
    simp only [PT] at  ⊢
    have hHeld:=bA.out _ aA.out
    refine ryy [15] ?_
    refine .cons rfl (fun K hK=>?_) .nil
    have z73_0:=aF.out.cell 0 rfl
    have y73_0:=aF.out.frozen 0
    have z73_1:=aF.out.cell 1 rfl
    have y73_1:=aF.out.frozen 1
    have z73_2:=aF.out.cell 2 rfl
    have y73_2:=aF.out.frozen 2
    have z73_3:=aF.out.cell 3 rfl
    have y73_3:=aF.out.frozen 3
    have z73:=aF.out.lt
    go_simp
    obtain ⟨v73,hV⟩:=nmz (World.setCell (World.setCell (World.setCell (World.setCell v ⟨aB,0,none⟩ (.bool s14)) ⟨aB,1,none⟩ (.slice A14 n14 c14)) ⟨aB,2,none⟩ (.bool t14)) ⟨aB,3,none⟩ (.slice B14 m14 d14))
    rw [hV]
    have dW:=hJ (show sto v aB 0 [.bool s14,.slice A14 n14 c14,.bool t14,.slice B14 m14 d14]=v73 from hV)
    clear hV z73 z73_0 y73_0 z73_1 y73_1 z73_2 y73_2 z73_3 y73_3
    have bB:=hJ (show Below wl35.heap.size wl35 v73 by rw [←dW.out]; exact below_sto aA.out bT.out _ _)
    have lU:=hJ (show PF v73 s14 A14 n14 c14 t14 B14 m14 d14 P3 Q3 by rw [←dW.out]; exact PF.sto dU.out aF.out rfl _ _)
    have lV:=hJ (show BX 27 v73 aB #[.bool s14,.slice A14 n14 c14,.bool t14,.slice B14 m14 d14] by rw [←dW.out]; exact BX.put aF.out _ _)
    clear hHeld
    refine hK.out _ _ (bA.out _ bB.out) (fun hHeld=>?_)
    clear hK K
    refine tq 16 ?_
    try simp only [PT]
    refine wpAnyH_done (by kernel_rfl) ?_ _
    clear hHeld
    by_cases hc:C3=0
    ·obtain rfl:=hc
     have aL:=hJ (BX.new aI.out bB.out)
     have bC:Hid (∀ w',Below v73.heap.size v73 w'→(fun w':World=>w'.cell? ⟨x1.heap.size,24,none⟩=some (.bool s4)∧w'.cell? ⟨x1.heap.size,25,none⟩=some (.slice A4 n4 c4)∧w'.cell? ⟨x1.heap.size,26,none⟩=some (.bool t4)∧w'.cell? ⟨x1.heap.size,27,none⟩=some (.slice B4 m4 d4)∧w'.cell? ⟨x1.heap.size,28,none⟩=some (.bool s0)∧w'.cell? ⟨x1.heap.size,29,none⟩=some (.slice A0 n0 c0)∧w'.cell? ⟨x1.heap.size,30,none⟩=some (.bool t0)∧w'.cell? ⟨x1.heap.size,31,none⟩=some (.slice B0 m0 d0)∧Below v73.heap.size v73 w') w'):=hJ (fun w' hb=>⟨(BX.new aL.out hb).cell 24 rfl,(BX.new aL.out hb).cell 25 rfl,(BX.new aL.out hb).cell 26 rfl,(BX.new aL.out hb).cell 27 rfl,(BX.new aL.out hb).cell 28 rfl,(BX.new aL.out hb).cell 29 rfl,(BX.new aL.out hb).cell 30 rfl,(BX.new aL.out hb).cell 31 rfl,hb⟩)
     have aY:=hJ (bt aV.out bB.out)
     have gD:=hJ (PF.new hT.out aY.out)
     have gE:=hJ (PF.new eR.out aY.out)
     go_wp2_with fail
     obtain ⟨v75,hv75⟩:=nmz (World.drew v73)
     have cM:=hJ (show Below v73.heap.size v73 v75 by rw [←hv75]; exact (Below.refl _ _).drew)
     refine whd bC hv75 (fun hHeld=>?_)
     clear hv75
     refine tq 0 ?_
     refine tq 1 ?_
     refine tq 2 ?_
     refine tq 3 ?_
     refine tq 4 ?_
     refine tq 5 ?_
     refine tq 6 ?_
     refine tq 7 ?_
     refine tq 8 ?_
     refine tq 9 ?_
     try simp only [PT]
     refine wpAnyH_name (fun F hF a0 ha0 L0 hL0=>?_)
     have aZ:∀ (s15:Bool) (A15:Option Addr) (n15:Nat) (c15:Nat) (t15:Bool) (B15:Option Addr) (m15:Nat) (d15:Nat) (aC:Nat) (v:World),Hid (Below v73.heap.size v73 v)→Hid (PF v s15 A15 n15 c15 t15 B15 m15 d15 P4 Q4)→Hid (BX 27 v aC #[.bool false,.slice none 0 0,.bool false,.slice none 0 0])→Hid (v73.heap.size≤aC)→F 2 (Array.setIfInBounds (Array.setIfInBounds (Array.setIfInBounds (Array.setIfInBounds (Array.setIfInBounds L0 10 true) 14 true) 11 true) 12 true) 13 true) (Act.put (Act.put (Act.put (Act.put (Act.put a0 (some 71) (.tuple #[.agg #[.bool s15,.slice A15 n15 c15,.bool t15,.slice B15 m15 d15],.int .i64 C4])) (some 13) (.pointer (some ⟨aC,0,none⟩))) (some 60) (.tuple #[.agg #[.bool s15,.slice A15 n15 c15,.bool t15,.slice B15 m15 d15],.int .i64 C4])) (some 72) (.agg #[.bool s15,.slice A15 n15 c15,.bool t15,.slice B15 m15 d15])) (some 73) (.int .i64 C4)) v:=by
      intro s15 A15 n15 c15 t15 B15 m15 d15 aC v aA dX aG bU
      subst hF ha0 hL0
      simp only [PT] at  ⊢
      have hHeld:=bC.out _ aA.out
      refine ryy [15] ?_
      refine .cons rfl (fun K hK=>?_) .nil
      have z76_0:=aG.out.cell 0 rfl
      have y76_0:=aG.out.frozen 0
      have z76_1:=aG.out.cell 1 rfl
      have y76_1:=aG.out.frozen 1
      have z76_2:=aG.out.cell 2 rfl
      have y76_2:=aG.out.frozen 2
      have z76_3:=aG.out.cell 3 rfl
      have y76_3:=aG.out.frozen 3
      have z76:=aG.out.lt
      go_simp
      obtain ⟨v76,hV⟩:=nmz (World.setCell (World.setCell (World.setCell (World.setCell v ⟨aC,0,none⟩ (.bool s15)) ⟨aC,1,none⟩ (.slice A15 n15 c15)) ⟨aC,2,none⟩ (.bool t15)) ⟨aC,3,none⟩ (.slice B15 m15 d15))
      rw [hV]
      have dY:=hJ (show sto v aC 0 [.bool s15,.slice A15 n15 c15,.bool t15,.slice B15 m15 d15]=v76 from hV)
      clear hV z76 z76_0 y76_0 z76_1 y76_1 z76_2 y76_2 z76_3 y76_3
      have bD:=hJ (show Below v73.heap.size v73 v76 by rw [←dY.out]; exact below_sto aA.out bU.out _ _)
      have lW:=hJ (show PF v76 s15 A15 n15 c15 t15 B15 m15 d15 P4 Q4 by rw [←dY.out]; exact PF.sto dX.out aG.out rfl _ _)
      have lX:=hJ (show BX 27 v76 aC #[.bool s15,.slice A15 n15 c15,.bool t15,.slice B15 m15 d15] by rw [←dY.out]; exact BX.put aG.out _ _)
      clear hHeld
      refine hK.out _ _ (bC.out _ bD.out) (fun hHeld=>?_)
      clear hK K
      refine tq 16 ?_
      try simp only [PT]
      refine wpAnyH_done (by kernel_rfl) ?_ _
      clear hHeld
      by_cases hc:C4=0
      ·obtain rfl:=hc
       have lY:=hJ (BX.new lV.out bD.out)
       obtain ⟨lZ,mA,mB,mC⟩:=lY.out.c4 0 1 2 3 rfl rfl rfl rfl
       obtain ⟨mD,mE,mF,mG⟩:=lX.out.c4 0 1 2 3 rfl rfl rfl rfl
       have mH:=hJ (PF.new lU.out bD.out)
       go_wp2_with fail
       clear lZ mA mB mC mD mE mF mG
       refine (fmul_any P3 Q3 P4 Q4 s14 t14 s15 t15 A14 B14 A15 B15 n14 c14 m14 d14 n15 c15 m15 d15 v76 mH.out lW.out cR.out.1.1 cS.out.1.1 cR.out.2.1 cR.out.2.2 cS.out.2.1 cS.out.2.2).mono ?_
       rw [cD.out.1,cD.out.2.1,cD.out.2.2]
       rintro e w86 ⟨s16,A16,n16,c16,t16,B16,m16,d16,rfl,hr16,hb⟩
       have cW:=hJ hb
       have mI:=hJ hr16
       clear hb hr16
       by_cases hc:C5=0
       ·obtain rfl:=hc
        obtain ⟨x87,dZ⟩:=nmz (w86.alloc (.cells #[.bool s16,.slice A16 n16 c16,.bool t16,.slice B16 m16 d16] 27))
        have eA:=hJ (show Below w86.heap.size w86 x87 by rw [←dZ]; exact ((Below.refl _ _).alloc (Nat.le_refl _) _))
        have mJ:=hJ (show BX 27 x87 w86.heap.size #[.bool s16,.slice A16 n16 c16,.bool t16,.slice B16 m16 d16] by rw [←dZ]; exact (BX.at rfl))
        obtain ⟨mK,mL,mM,mN⟩:=mJ.out.c4 0 1 2 3 rfl rfl rfl rfl
        obtain ⟨x92,eB⟩:=nmz (x87.alloc (.cells #[.bool s16,.slice A16 n16 c16,.bool t16,.slice B16 m16 d16] 27))
        have eC:=hJ (show Below x87.heap.size x87 x92 by rw [←eB]; exact ((Below.refl _ _).alloc (Nat.le_refl _) _))
        have mO:=hJ (show BX 27 x92 x87.heap.size #[.bool s16,.slice A16 n16 c16,.bool t16,.slice B16 m16 d16] by rw [←eB]; exact (BX.at rfl))
        have gF:=hJ (bt (bt (bt (bt bB.out bD.out) cW.out) eA.out) eC.out)
        have gG:=hJ (OwnR.new aT.out gF.out)
        have bV:=hJ (bt (bt (bt (bt (bt aM.out bB.out) bD.out) cW.out) eA.out) eC.out)
        go_wp2_with (at_builtin; refine wpList_append_okv noU rfl _ _ 114 rfl x34.heap.size 27 i27 _ 4 64 Tryz.underlying114 bM.out.1 bM.out.2.1 bM.out.2.2.1 bM.out.2.2.2 rfl rfl (by decide) (.slice (some ⟨gx,0,none⟩) 1 cpx) 1 [.bool sx0,.slice Ax0 nx0 cx0,.bool tx0,.slice Bx0 mx0 dx0] rfl gG.out ⟨x87.heap.size,0,none⟩ 1 1 [.bool s16,.slice A16 n16 c16,.bool t16,.slice B16 m16 d16] rfl rfl (BX.news mO.out) (List.all_eq_true (p:=Value.oneCell')|>.1 rfl) rfl (by unfold maxLen; omega) (by omega) (bV.out).size (by decide) ?_; intro va wa hown hgrow; refine stop_here (fun q cG=>?_))
        clear dZ mK mL mM mN eB
        rw [cG.out]
        clear cG q
        have hown:OwnR noU wa x34.heap.size 27 4 va 2 [.bool sx0,.slice Ax0 nx0 cx0,.bool tx0,.slice Bx0 mx0 dx0,.bool s16,.slice A16 n16 c16,.bool t16,.slice B16 m16 d16]:=hown
        obtain ⟨gH,gI,rfl,hg1,hg2,hcap,_⟩:=hown.row (by decide)
        obtain ⟨w93,rfl⟩:∃ W,W=wa:=⟨_,rfl⟩
        have mP:=hJ (show OwnR noU w93 x34.heap.size 27 4 (.slice (some ⟨gH,0,none⟩) 2 gI) 2 [.bool sx0,.slice Ax0 nx0 cx0,.bool tx0,.slice Bx0 mx0 dx0,.bool s16,.slice A16 n16 c16,.bool t16,.slice B16 m16 d16] from hown)
        have mQ:=hJ hg1
        have mR:=hJ hg2
        have eD:=hJ hgrow
        clear hown hg1 hg2 hgrow hcap
        have dI:=hJ (show Below x34.heap.size x34 w93 from Grew.below bV.out eD.out gG.out (Nat.le_refl _) (bV.out).size)
        have mS:=hJ mR.out
        have mT:=hJ (PF.new cV.out gF.out)
        have mU:=hJ (show PF w93 sx0 Ax0 nx0 cx0 tx0 Bx0 mx0 dx0 P2 Q2 from PF.grow mT.out eD.out (fun _=>rfl))
        have dJ:=hJ (bt eA.out eC.out)
        have mV:=hJ (PF.new mI.out dJ.out)
        have mW:=hJ (show PF w93 s16 A16 n16 c16 t16 B16 m16 d16 P5 Q5 from PF.grow mV.out eD.out (fun _=>rfl))
        go_wp2_with fail
        go_roundw
        case rel=>exact ⟨2,by go_num,dI.out,.inr (.inr (⟨rfl,gH,gI,sx0,Ax0,nx0,cx0,tx0,Bx0,mx0,dx0,s16,A16,n16,c16,t16,B16,m16,d16,rfl,mP,mQ,mS,hJ mU.out,hJ mW.out,hJ (by simp)⟩))⟩
        case measure=>simp [intOf] <;> omega
       have hcz:(C5 == 0)=false:=by simp [hc]
       have HV:=hJ (show feV [0,0,0,0,0,C5,C6]=C5 from feV_n hc)
       have HN:=hJ hc
       clear hc
       obtain ⟨x95,gJ⟩:=nmz (w86.alloc (.cells #[.bool s16,.slice A16 n16 c16,.bool t16,.slice B16 m16 d16] 27))
       have gK:=hJ (show Below w86.heap.size w86 x95 by rw [←gJ]; exact ((Below.refl _ _).alloc (Nat.le_refl _) _))
       have dK:=hJ (bt (bt (bt (bt (bt aS.out aM.out) bB.out) bD.out) cW.out) gK.out)
       have aJ:=hJ (BX.new bK.out dK.out)
       have mX:=aJ.out.frozen 0
       have mY:=aJ.out.cell 0 rfl
       have mZ:=aJ.out.frozen 1
       have nA:=aJ.out.cell 1 rfl
       have nB:=aJ.out.frozen 2
       have nC:=aJ.out.cell 2 rfl
       have nD:=aJ.out.frozen 3
       have nE:=aJ.out.cell 3 rfl
       obtain ⟨x96,gL⟩:=nmz (World.setCell (World.setCell (World.setCell (World.setCell x95 ⟨w.heap.size+3,0,none⟩ (.bool false)) ⟨w.heap.size+3,1,none⟩ (.slice none 0 0)) ⟨w.heap.size+3,2,none⟩ (.bool false)) ⟨w.heap.size+3,3,none⟩ (.slice none 0 0))
       have gM:=hJ (show sto x95 (w.heap.size+3) 0 [.bool false,.slice none 0 0,.bool false,.slice none 0 0]=x96 from gL)
       have nF:=hJ (show BX 27 x96 (w.heap.size+3) #[.bool false,.slice none 0 0,.bool false,.slice none 0 0] by rw [←gM.out]; exact BX.put aJ.out _ _)
       have dL:=hJ (show Below w.heap.size w x96 by rw [←gM.out]; exact below_sto (bt (bt (bt aY.out bD.out) cW.out) gK.out) bL.out _ _)
       go_wp2
       clear gJ mX mY mZ nA nB nC nD nE gL
       exact bodyPost_ret (results_cell1 rfl _ _ _ _ _ _ _ rfl nF.out Tryz.underlying27 rfl F_size) rfl (by rw [HV.out,feP,feQ,if_neg HN.out,if_neg HN.out]; exact ⟨false,none,0,0,false,none,0,0,rfl,PF.zero _,dL.out⟩)
      have hcz:(C4 == 0)=false:=by simp [hc]
      have HV:=hJ (show feV [0,0,0,0,C4,C5,C6]=C4 from feV_n hc)
      have HN:=hJ hc
      clear hc
      have dM:=hJ (bt (bt (bt aS.out aM.out) bB.out) bD.out)
      have aK:=hJ (BX.new bK.out dM.out)
      have nG:=aK.out.frozen 0
      have nH:=aK.out.cell 0 rfl
      have nJ:=aK.out.frozen 1
      have nK:=aK.out.cell 1 rfl
      have nL:=aK.out.frozen 2
      have nM:=aK.out.cell 2 rfl
      have nN:=aK.out.frozen 3
      have nO:=aK.out.cell 3 rfl
      obtain ⟨x97,gN⟩:=nmz (World.setCell (World.setCell (World.setCell (World.setCell v76 ⟨w.heap.size+3,0,none⟩ (.bool false)) ⟨w.heap.size+3,1,none⟩ (.slice none 0 0)) ⟨w.heap.size+3,2,none⟩ (.bool false)) ⟨w.heap.size+3,3,none⟩ (.slice none 0 0))
      have gO:=hJ (show sto v76 (w.heap.size+3) 0 [.bool false,.slice none 0 0,.bool false,.slice none 0 0]=x97 from gN)
      have nP:=hJ (show BX 27 x97 (w.heap.size+3) #[.bool false,.slice none 0 0,.bool false,.slice none 0 0] by rw [←gO.out]; exact BX.put aK.out _ _)
      have dN:=hJ (show Below w.heap.size w x97 by rw [←gO.out]; exact below_sto (bt aY.out bD.out) bL.out _ _)
      go_wp2
      clear nG nH nJ nK nL nM nN nO gN
      exact bodyPost_ret (results_cell1 rfl _ _ _ _ _ _ _ rfl nP.out Tryz.underlying27 rfl F_size) rfl (by rw [HV.out,feP,feQ,if_neg HN.out,if_neg HN.out]; exact ⟨false,none,0,0,false,none,0,0,rfl,PF.zero _,dN.out⟩)
     have cH:∀ (s15:Bool) (A15:Option Addr) (n15:Nat) (c15:Nat) (t15:Bool) (B15:Option Addr) (m15:Nat) (d15:Nat) (v:World),Hid (Below v73.heap.size v73 v)→Hid (PF v s15 A15 n15 c15 t15 B15 m15 d15 P4 Q4)→F 3 (Array.setIfInBounds (Array.setIfInBounds (Array.setIfInBounds (Array.setIfInBounds L0 10 true) 11 true) 12 true) 13 true) (Act.put (Act.put (Act.put (Act.put a0 (some 71) (.tuple #[.agg #[.bool s15,.slice A15 n15 c15,.bool t15,.slice B15 m15 d15],.int .i64 C4])) (some 60) (.tuple #[.agg #[.bool s15,.slice A15 n15 c15,.bool t15,.slice B15 m15 d15],.int .i64 C4])) (some 72) (.agg #[.bool s15,.slice A15 n15 c15,.bool t15,.slice B15 m15 d15])) (some 73) (.int .i64 C4)) v:=by
      intro s15 A15 n15 c15 t15 B15 m15 d15 v aA dX
      subst hF ha0 hL0
      simp only [PT] at aZ ⊢
      have hHeld:=bC.out _ aA.out
      refine ryy [14] ?_
      refine .cons rfl (fun K hK=>?_) .nil
      go_simp
      have eE:=hJ ((Below.refl v.heap.size v).alloc (Nat.le_refl _) (.cells #[.bool false,.slice none 0 0,.bool false,.slice none 0 0] 27))
      have eF:=hJ (BX.lit v 27 #[.bool false,.slice none 0 0,.bool false,.slice none 0 0])
      obtain ⟨v98,hV⟩:=nmz (World.alloc v (.cells #[.bool false,.slice none 0 0,.bool false,.slice none 0 0] 27))
      obtain ⟨aC,hg⟩:=nmz (v.heap.size)
      rw [hV] at eE eF ⊢
      rw [hg] at eF ⊢
      have nQ:=hJ (show v73.heap.size≤aC by rw [←hg]; exact aA.out.size)
      clear hV hg
      have gP:=hJ (bt aA.out eE.out)
      have nR:=hJ (PF.new dX.out eE.out)
      clear hHeld
      refine hK.out _ _ (bC.out _ gP.out) (fun hHeld=>?_)
      clear hK K
      try simp only [PT]
      exact wpAnyH_cast (by kernel_rfl) (aZ s15 A15 n15 c15 t15 B15 m15 d15 aC v98 gP nR eF nQ)
     have cI:∀ (aC:Nat) (v:World),Hid (Below v73.heap.size v73 v)→Hid (BX 27 v aC #[.bool false,.slice none 0 0,.bool false,.slice none 0 0])→Hid (v73.heap.size≤aC)→F 6 (Array.setIfInBounds L0 14 true) (Act.put a0 (some 13) (.pointer (some ⟨aC,0,none⟩))) v:=by
      intro aC v aA aG bU
      subst hF ha0 hL0
      simp only [PT] at aZ ⊢
      have hHeld:=bC.out _ aA.out
      refine ryy [10] ?_
      refine .cons rfl (fun K hK=>?_) .nil
      go_simp
      go_at_call 67
      refine (fsub_any p4 q4 p0 q0 s4 t4 s0 t0 A4 B4 A0 B0 n4 c4 m4 d4 n0 c0 m0 d0 v (PF.new gD.out aA.out) (PF.new gE.out aA.out) bR.out.1.1 aN.out.1.1 bR.out.2.1 bR.out.2.2 aN.out.2.1 aN.out.2.2).mono ?_
      rw [bJ.out.1,bJ.out.2.1,bJ.out.2.2]
      rintro e v99 ⟨s15,A15,n15,c15,t15,B15,m15,d15,rfl,hr15,hb⟩
      have gQ:=hJ hb
      have nS:=hJ hr15
      clear hb hr15
      go_wp2_with fail
      have gR:=hJ (bt aA.out gQ.out)
      have nT:=hJ (BX.new aG.out gQ.out)
      clear hHeld
      refine hK.out _ _ (bC.out _ gR.out) (fun hHeld=>?_)
      clear hK K
      refine tq 11 ?_
      refine tq 12 ?_
      refine tq 13 ?_
      try simp only [PT]
      exact wpAnyH_cast (by kernel_rfl) (aZ s15 A15 n15 c15 t15 B15 m15 d15 aC v99 gR nS nT bU)
     subst hF ha0 hL0
     simp only [PT] at cH cI
     refine ryy [10,14] ?_
     refine .cons rfl (fun K hK=>?_) ?_
     go_simp
     go_at_call 67
     refine (fsub_any p4 q4 p0 q0 s4 t4 s0 t0 A4 B4 A0 B0 n4 c4 m4 d4 n0 c0 m0 d0 v75 (PF.new gD.out cM.out) (PF.new gE.out cM.out) bR.out.1.1 aN.out.1.1 bR.out.2.1 bR.out.2.2 aN.out.2.1 aN.out.2.2).mono ?_
     rw [bJ.out.1,bJ.out.2.1,bJ.out.2.2]
     rintro e v100 ⟨s15,A15,n15,c15,t15,B15,m15,d15,rfl,hr15,hb⟩
     have nU:=hJ hb
     have nV:=hJ hr15
     clear hb hr15
     go_wp2_with fail
     have gS:=hJ (bt cM.out nU.out)
     clear hHeld
     refine hK.out _ _ (bC.out _ gS.out) (fun hHeld=>?_)
     clear hK K
     refine tq 11 ?_
     refine tq 12 ?_
     refine tq 13 ?_
     try simp only [PT]
     exact wpAnyH_cast (by kernel_rfl) (cH s15 A15 n15 c15 t15 B15 m15 d15 v100 gS nV)
     refine .cons rfl (fun K hK=>?_) .nil
     go_simp
     have gT:=hJ ((Below.refl v75.heap.size v75).alloc (Nat.le_refl _) (.cells #[.bool false,.slice none 0 0,.bool false,.slice none 0 0] 27))
     have eG:=hJ (BX.lit v75 27 #[.bool false,.slice none 0 0,.bool false,.slice none 0 0])
     obtain ⟨v101,hV⟩:=nmz (World.alloc v75 (.cells #[.bool false,.slice none 0 0,.bool false,.slice none 0 0] 27))
     obtain ⟨aC,hg⟩:=nmz (v75.heap.size)
     rw [hV] at gT eG ⊢
     rw [hg] at eG ⊢
     have nW:=hJ (show v73.heap.size≤aC by rw [←hg]; exact cM.out.size)
     clear hV hg
     have gU:=hJ (bt cM.out gT.out)
     clear hHeld
     refine hK.out _ _ (bC.out _ gU.out) (fun hHeld=>?_)
     clear hK K
     try simp only [PT]
     exact wpAnyH_cast (by kernel_rfl) (cI aC v101 gU eG nW)
    have hcz:(C3 == 0)=false:=by simp [hc]
    have HV:=hJ (show feV [0,0,0,C3,C4,C5,C6]=C3 from feV_n hc)
    have HN:=hJ hc
    clear hc
    have bW:=hJ (bt (bt aS.out aM.out) bB.out)
    have aD:=hJ (BX.new bK.out bW.out)
    have nX:=aD.out.frozen 0
    have nY:=aD.out.cell 0 rfl
    have nZ:=aD.out.frozen 1
    have oA:=aD.out.cell 1 rfl
    have oB:=aD.out.frozen 2
    have oC:=aD.out.cell 2 rfl
    have oD:=aD.out.frozen 3
    have oE:=aD.out.cell 3 rfl
    obtain ⟨x102,gV⟩:=nmz (World.setCell (World.setCell (World.setCell (World.setCell v73 ⟨w.heap.size+3,0,none⟩ (.bool false)) ⟨w.heap.size+3,1,none⟩ (.slice none 0 0)) ⟨w.heap.size+3,2,none⟩ (.bool false)) ⟨w.heap.size+3,3,none⟩ (.slice none 0 0))
    have gW:=hJ (show sto v73 (w.heap.size+3) 0 [.bool false,.slice none 0 0,.bool false,.slice none 0 0]=x102 from gV)
    have oF:=hJ (show BX 27 x102 (w.heap.size+3) #[.bool false,.slice none 0 0,.bool false,.slice none 0 0] by rw [←gW.out]; exact BX.put aD.out _ _)
    have bX:=hJ (show Below w.heap.size w x102 by rw [←gW.out]; exact below_sto (bt aV.out bB.out) bL.out _ _)
    go_wp2
    clear nX nY nZ oA oB oC oD oE gV
    exact bodyPost_ret (results_cell1 rfl _ _ _ _ _ _ _ rfl oF.out Tryz.underlying27 rfl F_size) rfl (by rw [HV.out,feP,feQ,if_neg HN.out,if_neg HN.out]; exact ⟨false,none,0,0,false,none,0,0,rfl,PF.zero _,bX.out⟩)
   have cJ:∀ (s14:Bool) (A14:Option Addr) (n14:Nat) (c14:Nat) (t14:Bool) (B14:Option Addr) (m14:Nat) (d14:Nat) (v:World),Hid (Below wl35.heap.size wl35 v)→Hid (PF v s14 A14 n14 c14 t14 B14 m14 d14 P3 Q3)→F 3 (Array.setIfInBounds (Array.setIfInBounds (Array.setIfInBounds (Array.setIfInBounds L0 10 true) 11 true) 12 true) 13 true) (Act.put (Act.put (Act.put (Act.put a0 (some 53) (.tuple #[.agg #[.bool s14,.slice A14 n14 c14,.bool t14,.slice B14 m14 d14],.int .i64 C3])) (some 42) (.tuple #[.agg #[.bool s14,.slice A14 n14 c14,.bool t14,.slice B14 m14 d14],.int .i64 C3])) (some 54) (.agg #[.bool s14,.slice A14 n14 c14,.bool t14,.slice B14 m14 d14])) (some 55) (.int .i64 C3)) v:=by
    intro s14 A14 n14 c14 t14 B14 m14 d14 v aA dU
    subst hF ha0 hL0
    simp only [PT] at aW ⊢
    have hHeld:=bA.out _ aA.out
    refine ryy [14] ?_
    refine .cons rfl (fun K hK=>?_) .nil
    go_simp
    have eH:=hJ ((Below.refl v.heap.size v).alloc (Nat.le_refl _) (.cells #[.bool false,.slice none 0 0,.bool false,.slice none 0 0] 27))
    have eI:=hJ (BX.lit v 27 #[.bool false,.slice none 0 0,.bool false,.slice none 0 0])
    obtain ⟨v103,hV⟩:=nmz (World.alloc v (.cells #[.bool false,.slice none 0 0,.bool false,.slice none 0 0] 27))
    obtain ⟨aB,hg⟩:=nmz (v.heap.size)
    rw [hV] at eH eI ⊢
    rw [hg] at eI ⊢
    have oG:=hJ (show wl35.heap.size≤aB by rw [←hg]; exact aA.out.size)
    clear hV hg
    have gX:=hJ (bt aA.out eH.out)
    have oH:=hJ (PF.new dU.out eH.out)
    clear hHeld
    refine hK.out _ _ (bA.out _ gX.out) (fun hHeld=>?_)
    clear hK K
    try simp only [PT]
    exact wpAnyH_cast (by kernel_rfl) (aW s14 A14 n14 c14 t14 B14 m14 d14 aB v103 gX oH eI oG)
   have cK:∀ (aB:Nat) (v:World),Hid (Below wl35.heap.size wl35 v)→Hid (BX 27 v aB #[.bool false,.slice none 0 0,.bool false,.slice none 0 0])→Hid (wl35.heap.size≤aB)→F 6 (Array.setIfInBounds L0 14 true) (Act.put a0 (some 11) (.pointer (some ⟨aB,0,none⟩))) v:=by
    intro aB v aA aF bT
    subst hF ha0 hL0
    simp only [PT] at aW ⊢
    have hHeld:=bA.out _ aA.out
    refine ryy [10] ?_
    refine .cons rfl (fun K hK=>?_) .nil
    go_simp
    go_at_call 67
    refine (fsub_any p3 q3 p1 q1 s3 t3 s1 t1 A3 B3 A1 B1 n3 c3 m3 d3 n1 c1 m1 d1 v (PF.new gB.out aA.out) (PF.new gC.out aA.out) bQ.out.1.1 aO.out.1.1 bQ.out.2.1 bQ.out.2.2 aO.out.2.1 aO.out.2.2).mono ?_
    rw [bH.out.1,bH.out.2.1,bH.out.2.2]
    rintro e v104 ⟨s14,A14,n14,c14,t14,B14,m14,d14,rfl,hr14,hb⟩
    have gY:=hJ hb
    have oI:=hJ hr14
    clear hb hr14
    go_wp2_with fail
    have gZ:=hJ (bt aA.out gY.out)
    have oJ:=hJ (BX.new aF.out gY.out)
    clear hHeld
    refine hK.out _ _ (bA.out _ gZ.out) (fun hHeld=>?_)
    clear hK K
    refine tq 11 ?_
    refine tq 12 ?_
    refine tq 13 ?_
    try simp only [PT]
    exact wpAnyH_cast (by kernel_rfl) (aW s14 A14 n14 c14 t14 B14 m14 d14 aB v104 gZ oI oJ bT)
   subst hF ha0 hL0
   simp only [PT] at cJ cK
   refine ryy [10,14] ?_
   refine .cons rfl (fun K hK=>?_) ?_
   go_simp
   go_at_call 67
   refine (fsub_any p3 q3 p1 q1 s3 t3 s1 t1 A3 B3 A1 B1 n3 c3 m3 d3 n1 c1 m1 d1 v72 (PF.new gB.out cL.out) (PF.new gC.out cL.out) bQ.out.1.1 aO.out.1.1 bQ.out.2.1 bQ.out.2.2 aO.out.2.1 aO.out.2.2).mono ?_
   rw [bH.out.1,bH.out.2.1,bH.out.2.2]
   rintro e v105 ⟨s14,A14,n14,c14,t14,B14,m14,d14,rfl,hr14,hb⟩
   have oK:=hJ hb
   have oL:=hJ hr14
   clear hb hr14
   go_wp2_with fail
   have hA:=hJ (bt cL.out oK.out)
   clear hHeld
   refine hK.out _ _ (bA.out _ hA.out) (fun hHeld=>?_)
   clear hK K
   refine tq 11 ?_
   refine tq 12 ?_
   refine tq 13 ?_
   try simp only [PT]
   exact wpAnyH_cast (by kernel_rfl) (cJ s14 A14 n14 c14 t14 B14 m14 d14 v105 hA oL)
   refine .cons rfl (fun K hK=>?_) .nil
   go_simp
   have hB:=hJ ((Below.refl v72.heap.size v72).alloc (Nat.le_refl _) (.cells #[.bool false,.slice none 0 0,.bool false,.slice none 0 0] 27))
   have eJ:=hJ (BX.lit v72 27 #[.bool false,.slice none 0 0,.bool false,.slice none 0 0])
   obtain ⟨v106,hV⟩:=nmz (World.alloc v72 (.cells #[.bool false,.slice none 0 0,.bool false,.slice none 0 0] 27))
   obtain ⟨aB,hg⟩:=nmz (v72.heap.size)
   rw [hV] at hB eJ ⊢
   rw [hg] at eJ ⊢
   have oM:=hJ (show wl35.heap.size≤aB by rw [←hg]; exact cL.out.size)
   clear hV hg
   have hC:=hJ (bt cL.out hB.out)
   clear hHeld
   refine hK.out _ _ (bA.out _ hC.out) (fun hHeld=>?_)
   clear hK K
   try simp only [PT]
   exact wpAnyH_cast (by kernel_rfl) (cK aB v106 hC eJ oM)
  ·(try rw [show ((2:Nat):Int)=2 from rfl])
   obtain ⟨rfl,rfl,rfl,rfl,rfl,rfl⟩:=cZ.out
   have bE:Hid (∀ w',Below wl35.heap.size wl35 w'→(fun w':World=>w'.cell? ⟨gx,0,none⟩=some (.bool sx0)∧w'.cell? ⟨gx,1,none⟩=some (.slice Ax0 nx0 cx0)∧w'.cell? ⟨gx,2,none⟩=some (.bool tx0)∧w'.cell? ⟨gx,3,none⟩=some (.slice Bx0 mx0 dx0)∧w'.cell? ⟨gx,4,none⟩=some (.bool sx1)∧w'.cell? ⟨gx,5,none⟩=some (.slice Ax1 nx1 cx1)∧w'.cell? ⟨gx,6,none⟩=some (.bool tx1)∧w'.cell? ⟨gx,7,none⟩=some (.slice Bx1 mx1 dx1)∧Below wl35.heap.size wl35 w') w'):=hJ (fun w' hb=>⟨(OwnR.new aT.out hb).at 0 rfl,(OwnR.new aT.out hb).at 1 rfl,(OwnR.new aT.out hb).at 2 rfl,(OwnR.new aT.out hb).at 3 rfl,(OwnR.new aT.out hb).at 4 rfl,(OwnR.new aT.out hb).at 5 rfl,(OwnR.new aT.out hb).at 6 rfl,(OwnR.new aT.out hb).at 7 rfl,hb⟩)
   go_wp2_with fail
   obtain ⟨v107,hv107⟩:=nmz (World.drew wl35)
   have cN:=hJ (show Below wl35.heap.size wl35 v107 by rw [←hv107]; exact (Below.refl _ _).drew)
   refine whd bE hv107 (fun hHeld=>?_)
   clear hv107
   refine tq 0 ?_
   refine tq 1 ?_
   refine tq 2 ?_
   refine tq 3 ?_
   refine tq 4 ?_
   refine tq 5 ?_
   try simp only [PT]
   refine wpAnyH_name (fun F hF a0 ha0 L0 hL0=>?_)
   have cX:∀ (s17:Bool) (A17:Option Addr) (n17:Nat) (c17:Nat) (t17:Bool) (B17:Option Addr) (m17:Nat) (d17:Nat) (aH:Nat) (v:World),Hid (Below wl35.heap.size wl35 v)→Hid (PF v s17 A17 n17 c17 t17 B17 m17 d17 P6 Q6)→Hid (BX 27 v aH #[.bool false,.slice none 0 0,.bool false,.slice none 0 0])→Hid (wl35.heap.size≤aH)→F 2 (Array.setIfInBounds (Array.setIfInBounds (Array.setIfInBounds (Array.setIfInBounds (Array.setIfInBounds L0 6 true) 10 true) 7 true) 8 true) 9 true) (Act.put (Act.put (Act.put (Act.put (Act.put a0 (some 99) (.tuple #[.agg #[.bool s17,.slice A17 n17 c17,.bool t17,.slice B17 m17 d17],.int .i64 C6])) (some 17) (.pointer (some ⟨aH,0,none⟩))) (some 92) (.tuple #[.agg #[.bool s17,.slice A17 n17 c17,.bool t17,.slice B17 m17 d17],.int .i64 C6])) (some 100) (.agg #[.bool s17,.slice A17 n17 c17,.bool t17,.slice B17 m17 d17])) (some 101) (.int .i64 C6)) v:=by
    intro s17 A17 n17 c17 t17 B17 m17 d17 aH v aA eK aR eL
    subst hF ha0 hL0
    simp only [PT] at  ⊢
    have hHeld:=bE.out _ aA.out
    refine ryy [11] ?_
    refine .cons rfl (fun K hK=>?_) .nil
    have z108_0:=aR.out.cell 0 rfl
    have y108_0:=aR.out.frozen 0
    have z108_1:=aR.out.cell 1 rfl
    have y108_1:=aR.out.frozen 1
    have z108_2:=aR.out.cell 2 rfl
    have y108_2:=aR.out.frozen 2
    have z108_3:=aR.out.cell 3 rfl
    have y108_3:=aR.out.frozen 3
    have z108:=aR.out.lt
    go_simp
    obtain ⟨v108,hV⟩:=nmz (World.setCell (World.setCell (World.setCell (World.setCell v ⟨aH,0,none⟩ (.bool s17)) ⟨aH,1,none⟩ (.slice A17 n17 c17)) ⟨aH,2,none⟩ (.bool t17)) ⟨aH,3,none⟩ (.slice B17 m17 d17))
    rw [hV]
    have eM:=hJ (show sto v aH 0 [.bool s17,.slice A17 n17 c17,.bool t17,.slice B17 m17 d17]=v108 from hV)
    clear hV z108 z108_0 y108_0 z108_1 y108_1 z108_2 y108_2 z108_3 y108_3
    have cO:=hJ (show Below wl35.heap.size wl35 v108 by rw [←eM.out]; exact below_sto aA.out eL.out _ _)
    have oN:=hJ (show PF v108 s17 A17 n17 c17 t17 B17 m17 d17 P6 Q6 by rw [←eM.out]; exact PF.sto eK.out aR.out rfl _ _)
    have oO:=hJ (show BX 27 v108 aH #[.bool s17,.slice A17 n17 c17,.bool t17,.slice B17 m17 d17] by rw [←eM.out]; exact BX.put aR.out _ _)
    clear hHeld
    refine hK.out _ _ (bE.out _ cO.out) (fun hHeld=>?_)
    clear hK K
    refine tq 12 ?_
    try simp only [PT]
    refine wpAnyH_done (by kernel_rfl) ?_ _
    clear hHeld
    by_cases hc:C6=0
    ·obtain rfl:=hc
     obtain ⟨oP,oQ,oR,oS⟩:=oO.out.c4 0 1 2 3 rfl rfl rfl rfl
     have bW:=hJ (bt (bt aS.out aM.out) cO.out)
     have aD:=hJ (BX.new bK.out bW.out)
     have oT:=aD.out.frozen 0
     have oU:=aD.out.cell 0 rfl
     have oV:=aD.out.frozen 1
     have oW:=aD.out.cell 1 rfl
     have oX:=aD.out.frozen 2
     have oY:=aD.out.cell 2 rfl
     have oZ:=aD.out.frozen 3
     have pA:=aD.out.cell 3 rfl
     obtain ⟨x114,hD⟩:=nmz (World.setCell (World.setCell (World.setCell (World.setCell v108 ⟨w.heap.size+3,0,none⟩ (.bool s17)) ⟨w.heap.size+3,1,none⟩ (.slice A17 n17 c17)) ⟨w.heap.size+3,2,none⟩ (.bool t17)) ⟨w.heap.size+3,3,none⟩ (.slice B17 m17 d17))
     have eN:=hJ (show sto v108 (w.heap.size+3) 0 [.bool s17,.slice A17 n17 c17,.bool t17,.slice B17 m17 d17]=x114 from hD)
     have pB:=hJ (show BX 27 x114 (w.heap.size+3) #[.bool s17,.slice A17 n17 c17,.bool t17,.slice B17 m17 d17] by rw [←eN.out]; exact BX.put aD.out _ _)
     have bX:=hJ (show Below w.heap.size w x114 by rw [←eN.out]; exact below_sto (bt (bt (bt cT.out aS.out) aM.out) cO.out) bL.out _ _)
     have pC:=hJ (show PF x114 s17 A17 n17 c17 t17 B17 m17 d17 P6 Q6 by rw [←eN.out]; exact PF.sto oN.out aD.out rfl _ _)
     go_wp2
     clear oP oQ oR oS oT oU oV oW oX oY oZ pA hD
     exact bodyPost_ret (results_cell1 rfl _ _ _ _ _ _ _ rfl pB.out Tryz.underlying27 rfl F_size) rfl (by rw [show feV [0,0,0,0,0,0,0]=0 from rfl,feP,feQ,if_pos rfl,if_pos rfl]; exact ⟨s17,A17,n17,c17,t17,B17,m17,d17,rfl,pC.out,bX.out⟩)
    have hcz:(C6 == 0)=false:=by simp [hc]
    have HV:=hJ (show feV [0,0,0,0,0,0,C6]=C6 from feV_n hc)
    have HN:=hJ hc
    clear hc
    have bW:=hJ (bt (bt aS.out aM.out) cO.out)
    have aD:=hJ (BX.new bK.out bW.out)
    have pD:=aD.out.frozen 0
    have pE:=aD.out.cell 0 rfl
    have pF:=aD.out.frozen 1
    have pG:=aD.out.cell 1 rfl
    have pH:=aD.out.frozen 2
    have pI:=aD.out.cell 2 rfl
    have pJ:=aD.out.frozen 3
    have pK:=aD.out.cell 3 rfl
    obtain ⟨x115,hE⟩:=nmz (World.setCell (World.setCell (World.setCell (World.setCell v108 ⟨w.heap.size+3,0,none⟩ (.bool false)) ⟨w.heap.size+3,1,none⟩ (.slice none 0 0)) ⟨w.heap.size+3,2,none⟩ (.bool false)) ⟨w.heap.size+3,3,none⟩ (.slice none 0 0))
    have hG:=hJ (show sto v108 (w.heap.size+3) 0 [.bool false,.slice none 0 0,.bool false,.slice none 0 0]=x115 from hE)
    have pL:=hJ (show BX 27 x115 (w.heap.size+3) #[.bool false,.slice none 0 0,.bool false,.slice none 0 0] by rw [←hG.out]; exact BX.put aD.out _ _)
    have bX:=hJ (show Below w.heap.size w x115 by rw [←hG.out]; exact below_sto (bt (bt (bt cT.out aS.out) aM.out) cO.out) bL.out _ _)
    go_wp2
    clear pD pE pF pG pH pI pJ pK hE
    exact bodyPost_ret (results_cell1 rfl _ _ _ _ _ _ _ rfl pL.out Tryz.underlying27 rfl F_size) rfl (by rw [HV.out,feP,feQ,if_neg HN.out,if_neg HN.out]; exact ⟨false,none,0,0,false,none,0,0,rfl,PF.zero _,bX.out⟩)
   have hH:∀ (s17:Bool) (A17:Option Addr) (n17:Nat) (c17:Nat) (t17:Bool) (B17:Option Addr) (m17:Nat) (d17:Nat) (v:World),Hid (Below wl35.heap.size wl35 v)→Hid (PF v s17 A17 n17 c17 t17 B17 m17 d17 P6 Q6)→F 3 (Array.setIfInBounds (Array.setIfInBounds (Array.setIfInBounds (Array.setIfInBounds L0 6 true) 7 true) 8 true) 9 true) (Act.put (Act.put (Act.put (Act.put a0 (some 99) (.tuple #[.agg #[.bool s17,.slice A17 n17 c17,.bool t17,.slice B17 m17 d17],.int .i64 C6])) (some 92) (.tuple #[.agg #[.bool s17,.slice A17 n17 c17,.bool t17,.slice B17 m17 d17],.int .i64 C6])) (some 100) (.agg #[.bool s17,.slice A17 n17 c17,.bool t17,.slice B17 m17 d17])) (some 101) (.int .i64 C6)) v:=by
    intro s17 A17 n17 c17 t17 B17 m17 d17 v aA eK
    subst hF ha0 hL0
    simp only [PT] at cX ⊢
    have hHeld:=bE.out _ aA.out
    refine ryy [10] ?_
    refine .cons rfl (fun K hK=>?_) .nil
    go_simp
    have eO:=hJ ((Below.refl v.heap.size v).alloc (Nat.le_refl _) (.cells #[.bool false,.slice none 0 0,.bool false,.slice none 0 0] 27))
    have eP:=hJ (BX.lit v 27 #[.bool false,.slice none 0 0,.bool false,.slice none 0 0])
    obtain ⟨v116,hV⟩:=nmz (World.alloc v (.cells #[.bool false,.slice none 0 0,.bool false,.slice none 0 0] 27))
    obtain ⟨aH,hg⟩:=nmz (v.heap.size)
    rw [hV] at eO eP ⊢
    rw [hg] at eP ⊢
    have pM:=hJ (show wl35.heap.size≤aH by rw [←hg]; exact aA.out.size)
    clear hV hg
    have hI:=hJ (bt aA.out eO.out)
    have pN:=hJ (PF.new eK.out eO.out)
    clear hHeld
    refine hK.out _ _ (bE.out _ hI.out) (fun hHeld=>?_)
    clear hK K
    try simp only [PT]
    exact wpAnyH_cast (by kernel_rfl) (cX s17 A17 n17 c17 t17 B17 m17 d17 aH v116 hI pN eP pM)
   have hL:∀ (aH:Nat) (v:World),Hid (Below wl35.heap.size wl35 v)→Hid (BX 27 v aH #[.bool false,.slice none 0 0,.bool false,.slice none 0 0])→Hid (wl35.heap.size≤aH)→F 6 (Array.setIfInBounds L0 10 true) (Act.put a0 (some 17) (.pointer (some ⟨aH,0,none⟩))) v:=by
    intro aH v aA aR eL
    subst hF ha0 hL0
    simp only [PT] at cX ⊢
    have hHeld:=bE.out _ aA.out
    refine ryy [6] ?_
    refine .cons rfl (fun K hK=>?_) .nil
    go_simp
    go_at_call 67
    refine (fsub_any P2 Q2 P5 Q5 sx0 tx0 sx1 tx1 Ax0 Bx0 Ax1 Bx1 nx0 cx0 mx0 dx0 nx1 cx1 mx1 dx1 v (PF.new cV.out aA.out) (PF.new eW.out aA.out) bZ.out.1.1 cA.out.1.1 bZ.out.2.1 bZ.out.2.2 cA.out.2.1 cA.out.2.2).mono ?_
    rw [bY.out.1,bY.out.2.1,bY.out.2.2]
    rintro e v117 ⟨s17,A17,n17,c17,t17,B17,m17,d17,rfl,hr17,hb⟩
    have hM:=hJ hb
    have pO:=hJ hr17
    clear hb hr17
    go_wp2_with fail
    have hN:=hJ (bt aA.out hM.out)
    have pP:=hJ (BX.new aR.out hM.out)
    clear hHeld
    refine hK.out _ _ (bE.out _ hN.out) (fun hHeld=>?_)
    clear hK K
    refine tq 7 ?_
    refine tq 8 ?_
    refine tq 9 ?_
    try simp only [PT]
    exact wpAnyH_cast (by kernel_rfl) (cX s17 A17 n17 c17 t17 B17 m17 d17 aH v117 hN pO pP eL)
   subst hF ha0 hL0
   simp only [PT] at hH hL
   refine ryy [6,10] ?_
   refine .cons rfl (fun K hK=>?_) ?_
   go_simp
   go_at_call 67
   refine (fsub_any P2 Q2 P5 Q5 sx0 tx0 sx1 tx1 Ax0 Bx0 Ax1 Bx1 nx0 cx0 mx0 dx0 nx1 cx1 mx1 dx1 v107 (PF.new cV.out cN.out) (PF.new eW.out cN.out) bZ.out.1.1 cA.out.1.1 bZ.out.2.1 bZ.out.2.2 cA.out.2.1 cA.out.2.2).mono ?_
   rw [bY.out.1,bY.out.2.1,bY.out.2.2]
   rintro e v118 ⟨s17,A17,n17,c17,t17,B17,m17,d17,rfl,hr17,hb⟩
   have pQ:=hJ hb
   have pR:=hJ hr17
   clear hb hr17
   go_wp2_with fail
   have hO:=hJ (bt cN.out pQ.out)
   clear hHeld
   refine hK.out _ _ (bE.out _ hO.out) (fun hHeld=>?_)
   clear hK K
   refine tq 7 ?_
   refine tq 8 ?_
   refine tq 9 ?_
   try simp only [PT]
   exact wpAnyH_cast (by kernel_rfl) (hH s17 A17 n17 c17 t17 B17 m17 d17 v118 hO pR)
   refine .cons rfl (fun K hK=>?_) .nil
   go_simp
   have hP:=hJ ((Below.refl v107.heap.size v107).alloc (Nat.le_refl _) (.cells #[.bool false,.slice none 0 0,.bool false,.slice none 0 0] 27))
   have eQ:=hJ (BX.lit v107 27 #[.bool false,.slice none 0 0,.bool false,.slice none 0 0])
   obtain ⟨v119,hV⟩:=nmz (World.alloc v107 (.cells #[.bool false,.slice none 0 0,.bool false,.slice none 0 0] 27))
   obtain ⟨aH,hg⟩:=nmz (v107.heap.size)
   rw [hV] at hP eQ ⊢
   rw [hg] at eQ ⊢
   have pS:=hJ (show wl35.heap.size≤aH by rw [←hg]; exact cN.out.size)
   clear hV hg
   have hQ:=hJ (bt cN.out hP.out)
   clear hHeld
   refine hK.out _ _ (bE.out _ hQ.out) (fun hHeld=>?_)
   clear hK K
   try simp only [PT]
   exact wpAnyH_cast (by kernel_rfl) (hL aH v119 hQ eQ pS)
end Go.Proofs.YtbgfmegepekapaaGreat
