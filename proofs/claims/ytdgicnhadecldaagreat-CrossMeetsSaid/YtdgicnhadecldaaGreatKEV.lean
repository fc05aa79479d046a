/- Contracts: onGrid, Side. Conditions: as each statement has them. -/
import Derived.Test.YtdgicnhadecldaaGreatKAE
import Derived.Test.YtdgicnhadecldaaGreatKEA
import Derived.Test.YtdgicnhadecldaaGreatKEQ
namespace Go.Proofs.YtdgicnhadecldaaGreat
set_option maxRecDepth 100000
set_option maxHeartbeats 12800000
open Go.RowKit
attribute [local go_sem ↓] Go.wp_at_zero Go.wp_at_succ
set_option linter.unusedVariables false
set_option linter.unusedSimpArgs false
theorem b2_m {x y:Int} {j k:Nat} (hx:x.natAbs < B2 j) (hy:y.natAbs < B2 k):(x*y).natAbs < B2 (j+k):=by
 rw [Int.natAbs_mul]
 unfold B2 at *
 rw [Nat.pow_add]
 exact Nat.mul_lt_mul'' hx hy
theorem b2_a {x y:Int} {k:Nat} (hx:x.natAbs < B2 k) (hy:y.natAbs < B2 k):(x+y).natAbs < B2 (k+1):=by
 unfold B2 at *
 rw [Nat.pow_succ]
 have:=Int.natAbs_add_le x y
 omega
/-- A fraction in lowest terms, of a size, that is the quotient of two integers. -/
def Vl (k:Nat) (p q x d:Int):Prop:=Low p q∧p.natAbs < B2 k∧q.natAbs < B2 k∧d≠0∧p*d=x*q
theorem b2_lim {k:Nat} {x:Int} (h:x.natAbs < B2 k) (hk:k≤16384):x.natAbs < lim:=by
 rw [lim_two]
 exact B2.le h hk
theorem b2_div {k:Nat} {x g:Int} (h:x.natAbs < B2 k):(x / g).natAbs < B2 k:=Nat.lt_of_le_of_lt (Int.natAbs_ediv_le_natAbs x g) h
theorem vl_add {k l:Nat} {p q x d r s y f:Int} (h:Vl k p q x d) (h':Vl l r s y f) (hk:k+l+1≤16384):adC p q r s=0∧Vl (k+l+1) (adP p q r s) (adQ p q r s) (x*f+y*d) (d*f):=by
 obtain ⟨h1,h2,h3,h4,h5⟩:=h
 obtain ⟨g1,g2,g3,g4,g5⟩:=h'
 have b1:(p*(s / adG q s)).natAbs < B2 (k+l):=b2_m h2 (b2_div g3)
 have b2:(r*(q / adG q s)).natAbs < B2 (k+l):=by rw [Nat.add_comm]; exact b2_m g2 (b2_div h3)
 have b3:(adN p q r s).natAbs < B2 (k+l+1):=b2_a b1 b2
 have b4:(adD q s).natAbs < B2 (k+l):=b2_m (b2_div h3) g3
 have hK:adK p q r s:=⟨b2_lim b1 (by omega),b2_lim b2 (by omega),b2_lim b3 hk,b2_lim b4 (by omega)⟩
 obtain ⟨e1,e2⟩:=ad_low h1 g1 hK
 refine ⟨if_pos hK,e1,?_,?_,Int.mul_ne_zero h4 g4,?_⟩
 ·rw [adP,if_pos hK]; exact b2_div b3
 ·rw [adQ,if_pos hK]; exact b2_div (B2.le b4 (by omega))
 ·have hq:=h1.1
  have hs:=g1.1
  refine Int.eq_of_mul_eq_mul_right (Int.mul_ne_zero (show q≠0 by omega) (show s≠0 by omega)) ?_
  obtain ⟨P,hP⟩:=nmz (adP p q r s)
  obtain ⟨Q,hQ⟩:=nmz (adQ p q r s)
  rw [hP,hQ] at e2 ⊢
  clear b1 b2 b3 b4 hK e1 h1 g1 hP hQ h2 h3 g2 g3 h4 g4 hq hs hk
  grind
theorem vl_mul {k l:Nat} {p q x d r s y f:Int} (h:Vl k p q x d) (h':Vl l r s y f) (hk:k+l≤16384):muC p q r s=0∧Vl (k+l) (muP p q r s) (muQ p q r s) (x*y) (d*f):=by
 obtain ⟨h1,h2,h3,h4,h5⟩:=h
 obtain ⟨g1,g2,g3,g4,g5⟩:=h'
 have b1:(muN p q r s).natAbs < B2 (k+l):=b2_m (b2_div h2) (b2_div g2)
 have b2:(muD p q r s).natAbs < B2 (k+l):=b2_m (b2_div h3) (b2_div g3)
 have hK:muK p q r s:=⟨b2_lim b1 hk,b2_lim b2 hk⟩
 obtain ⟨e1,e2⟩:=mu_low h1 g1 hK
 refine ⟨if_pos hK,e1,?_,?_,Int.mul_ne_zero h4 g4,?_⟩
 ·rw [muP,if_pos hK]; exact b1
 ·rw [muQ,if_pos hK]; exact b2
 ·have hq:=h1.1
  have hs:=g1.1
  refine Int.eq_of_mul_eq_mul_right (Int.mul_ne_zero (show q≠0 by omega) (show s≠0 by omega)) ?_
  obtain ⟨P,hP⟩:=nmz (muP p q r s)
  obtain ⟨Q,hQ⟩:=nmz (muQ p q r s)
  rw [hP,hQ] at e2 ⊢
  clear b1 b2 hK e1 h1 g1 hP hQ h2 h3 g2 g3 h4 g4 hq hs hk
  grind
theorem vl_neg {k:Nat} {p q x d:Int} (h:Vl k p q x d):Vl k (-p) q (-x) d:=by
 obtain ⟨h1,h2,h3,h4,h5⟩:=h
 refine ⟨⟨h1.1,by rw [Int.natAbs_neg]; exact h1.2⟩,by rw [Int.natAbs_neg]; exact h2,h3,h4,?_⟩
 rw [Int.neg_mul,Int.neg_mul,h5]
/-- Twice the area of three points with numerators and denominators. -/
def arN (ax ay da bx by' db cx cy dc:Int):Int:=((bx*da - ax*db)*(cy*da - ay*dc) - (by'*da - ay*db)*(cx*da - ax*dc))
theorem ar_big {n0 n1 n3 n4 da db dc:Int}:n0*n1*(db*da*(dc*da)) + -(n3*n4)*(db*da*(dc*da))=(da*da*db*dc)*(n0*n1 - n3*n4):=by grind
theorem ar_den {da db dc:Int}:db*da*(dc*da)*(db*da*(dc*da))=(da*da*db*dc)*(da*da*db*dc):=by grind
theorem area_small {ax ay da bx by' db cx cy dc:Int} {p0 q0 p1 q1 p2 q2 p3 q3 p4 q4 p5 q5 P0 Q0 C0 P1 Q1 C1 P2 Q2 C2 P3 Q3 C3 P4 Q4 C4 P5 Q5 C5 P6 Q6 C6:Int} (hd:0 < da∧0 < db∧0 < dc) (v0:Vl 64 p0 q0 ax da) (v1:Vl 64 p1 q1 ay da) (v2:Vl 64 p2 q2 bx db) (v3:Vl 64 p3 q3 by' db) (v4:Vl 64 p4 q4 cx dc) (v5:Vl 64 p5 q5 cy dc) (e0:adP p2 q2 (-p0) q0=P0∧adQ p2 q2 (-p0) q0=Q0∧adC p2 q2 (-p0) q0=C0) (e1:adP p5 q5 (-p1) q1=P1∧adQ p5 q5 (-p1) q1=Q1∧adC p5 q5 (-p1) q1=C1) (e2:muP P0 Q0 P1 Q1=P2∧muQ P0 Q0 P1 Q1=Q2∧muC P0 Q0 P1 Q1=C2) (e3:adP p3 q3 (-p1) q1=P3∧adQ p3 q3 (-p1) q1=Q3∧adC p3 q3 (-p1) q1=C3) (e4:adP p4 q4 (-p0) q0=P4∧adQ p4 q4 (-p0) q0=Q4∧adC p4 q4 (-p0) q0=C4) (e5:muP P3 Q3 P4 Q4=P5∧muQ P3 Q3 P4 Q4=Q5∧muC P3 Q3 P4 Q4=C5) (e6:adP P2 Q2 (-P5) Q5=P6∧adQ P2 Q2 (-P5) Q5=Q6∧adC P2 Q2 (-P5) Q5=C6) :
  (feV [C0,C1,C2,C3,C4,C5,C6])=0∧Low P6 Q6∧P6*(da*da*db*dc)=arN ax ay da bx by' db cx cy dc*Q6∧P6.natAbs < B2 517∧Q6.natAbs < B2 517:=by
 have s0:=vl_add v2 (vl_neg v0) (by decide)
 have s1:=vl_add v5 (vl_neg v1) (by decide)
 rw [e0.1,e0.2.1,e0.2.2] at s0
 rw [e1.1,e1.2.1,e1.2.2] at s1
 have s2:=vl_mul s0.2 s1.2 (by decide)
 rw [e2.1,e2.2.1,e2.2.2] at s2
 have s3:=vl_add v3 (vl_neg v1) (by decide)
 have s4:=vl_add v4 (vl_neg v0) (by decide)
 rw [e3.1,e3.2.1,e3.2.2] at s3
 rw [e4.1,e4.2.1,e4.2.2] at s4
 have s5:=vl_mul s3.2 s4.2 (by decide)
 rw [e5.1,e5.2.1,e5.2.2] at s5
 have s6:=vl_add s2.2 (vl_neg s5.2) (by decide)
 rw [e6.1,e6.2.1,e6.2.2] at s6
 obtain ⟨c6,h1,h2,h3,h4,h5⟩:=s6
 refine ⟨?_,h1,?_,B2.le h2 (by decide),B2.le h3 (by decide)⟩
 ·rw [s0.1,s1.1,s2.1,s3.1,s4.1,s5.1,c6]; rfl
 ·have hD:0 < (da*da*db*dc):=Int.mul_pos (Int.mul_pos (Int.mul_pos hd.1 hd.1) hd.2.1) hd.2.2
  rw [ar_big,ar_den] at h5
  have hN:(bx*da + -ax*db)*(cy*da + -ay*dc) - (by'*da + -ay*db)*(cx*da + -ax*dc)=arN ax ay da bx by' db cx cy dc:=by
   unfold arN
   simp only [Int.neg_mul,←Int.sub_eq_add_neg]
  rw [hN] at h5
  refine Int.eq_of_mul_eq_mul_right (show (da*da*db*dc)≠0 by omega) ?_
  obtain ⟨D,hDD⟩:=nmz ((da*da*db*dc))
  obtain ⟨N,hNN⟩:=nmz (arN ax ay da bx by' db cx cy dc)
  rw [hDD,hNN] at h5 ⊢
  clear s0 s1 s2 s3 s4 s5 h1 h2 h3 h4 hN hD hDD hNN e0 e1 e2 e3 e4 e5 e6 v0 v1 v2 v3 v4 v5
  grind
end Go.Proofs.YtdgicnhadecldaaGreat
