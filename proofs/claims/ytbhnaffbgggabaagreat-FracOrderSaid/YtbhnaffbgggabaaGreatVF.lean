/- Mathematics of the law FracOrder: the order of fractions, of sums, of products and of the fraction between two. No walk. -/
import Derived.Test.YtbhnaffbgggabaaGreatAA
namespace Go.Proofs.YtbhnaffbgggabaaGreat
open Go.RowKit
attribute [local go_sem ↓] Go.wp_at_zero Go.wp_at_succ
set_option linter.unusedVariables false
set_option linter.unusedSimpArgs false
/-- A fraction in lowest terms, of a size, that is the quotient of two integers. -/
def Vl (k : Nat) (p q x d : Int) : Prop := Low p q ∧ p.natAbs < B2 k ∧ q.natAbs < B2 k ∧ d ≠ 0 ∧ p * d = x * q
theorem vl_self {k : Nat} {p q : Int} (h : Low p q) (hp : p.natAbs < B2 k) (hq : q.natAbs < B2 k) : Vl k p q p q := ⟨h, hp, hq, by have := h.1; omega, rfl⟩
theorem b2_lim {k : Nat} {x : Int} (h : x.natAbs < B2 k) (hk : k ≤ 16384) : x.natAbs < lim := by
 rw [lim_two]
 exact B2.le h hk
theorem vl_fr {k : Nat} {p q x d : Int} (h : Vl k p q x d) (hk : k ≤ 16384) : Fr p q := ⟨h.1, b2_lim h.2.1 hk, b2_lim h.2.2.1 hk⟩
theorem vl_eq {k l : Nat} {p q x d p' q' y f : Int} (h : Vl k p q x d) (h' : Vl l p' q' y f) (e : x * f = y * d) : eqF p q p' q' = true := by
 refine decide_eq_true (low_eq h.1 h'.1 ?_)
 have hd := h.2.2.2.1
 have hf := h'.2.2.2.1
 have e1 := h.2.2.2.2
 have e2 := h'.2.2.2.2
 refine Int.eq_of_mul_eq_mul_right (Int.mul_ne_zero hd hf) ?_
 clear h h'
 grind
theorem b2_div {k : Nat} {x g : Int} (h : x.natAbs < B2 k) : (x / g).natAbs < B2 k := Nat.lt_of_le_of_lt (Int.natAbs_ediv_le_natAbs x g) h
theorem vl_add {k l : Nat} {p q x d r s y f : Int} (h : Vl k p q x d) (h' : Vl l r s y f) (hk : k + l + 1 ≤ 16384) : adC p q r s = 0 ∧ Vl (k + l + 1) (adP p q r s) (adQ p q r s) (x * f + y * d) (d * f) := by
 obtain ⟨h1, h2, h3, h4, h5⟩ := h
 obtain ⟨g1, g2, g3, g4, g5⟩ := h'
 have b1 : (p * (s / adG q s)).natAbs < B2 (k + l) := B2.mul h2 (b2_div g3)
 have b2 : (r * (q / adG q s)).natAbs < B2 (k + l) := by rw [Nat.add_comm]; exact B2.mul g2 (b2_div h3)
 have b3 : (adN p q r s).natAbs < B2 (k + l + 1) := B2.add b1 b2
 have b4 : (adD q s).natAbs < B2 (k + l) := B2.mul (b2_div h3) g3
 have hK : adK p q r s := ⟨b2_lim b1 (by omega), b2_lim b2 (by omega), b2_lim b3 hk, b2_lim b4 (by omega)⟩
 obtain ⟨e1, e2⟩ := ad_low h1 g1 hK
 refine ⟨if_pos hK, e1, ?_, ?_, Int.mul_ne_zero h4 g4, ?_⟩
 ·rw [adP, if_pos hK]; exact b2_div b3
 ·rw [adQ, if_pos hK]; exact b2_div (B2.le b4 (by omega))
 ·have hq := h1.1
  have hs := g1.1
  refine Int.eq_of_mul_eq_mul_right (Int.mul_ne_zero (show q ≠ 0 by omega) (show s ≠ 0 by omega)) ?_
  obtain ⟨P, hP⟩ := nmz (adP p q r s)
  obtain ⟨Q, hQ⟩ := nmz (adQ p q r s)
  rw [hP, hQ] at e2 ⊢
  clear b1 b2 b3 b4 hK e1 h1 g1 hP hQ h2 h3 g2 g3 h4 g4 hq hs hk
  grind
theorem vl_mul {k l : Nat} {p q x d r s y f : Int} (h : Vl k p q x d) (h' : Vl l r s y f) (hk : k + l ≤ 16384) : muC p q r s = 0 ∧ Vl (k + l) (muP p q r s) (muQ p q r s) (x * y) (d * f) := by
 obtain ⟨h1, h2, h3, h4, h5⟩ := h
 obtain ⟨g1, g2, g3, g4, g5⟩ := h'
 have b1 : (muN p q r s).natAbs < B2 (k + l) := B2.mul (b2_div h2) (b2_div g2)
 have b2 : (muD p q r s).natAbs < B2 (k + l) := B2.mul (b2_div h3) (b2_div g3)
 have hK : muK p q r s := ⟨b2_lim b1 hk, b2_lim b2 hk⟩
 obtain ⟨e1, e2⟩ := mu_low h1 g1 hK
 refine ⟨if_pos hK, e1, ?_, ?_, Int.mul_ne_zero h4 g4, ?_⟩
 ·rw [muP, if_pos hK]; exact b1
 ·rw [muQ, if_pos hK]; exact b2
 ·have hq := h1.1
  have hs := g1.1
  refine Int.eq_of_mul_eq_mul_right (Int.mul_ne_zero (show q ≠ 0 by omega) (show s ≠ 0 by omega)) ?_
  obtain ⟨P, hP⟩ := nmz (muP p q r s)
  obtain ⟨Q, hQ⟩ := nmz (muQ p q r s)
  rw [hP, hQ] at e2 ⊢
  clear b1 b2 hK e1 h1 g1 hP hQ h2 h3 g2 g3 h4 g4 hq hs hk
  grind
theorem mk_le (x d : Int) (k : Nat) (hx : x.natAbs < B2 k) (hd : d.natAbs < B2 k) (h0 : d ≠ 0) : (mkP x d).natAbs < B2 k ∧ (mkQ x d).natAbs < B2 k := by
 unfold mkP mkQ
 rw [if_neg h0, if_neg h0]
 exact ⟨b2_div hx, b2_div hd⟩
theorem vl_div {k l : Nat} {p q x d r s y f : Int} (h : Vl k p q x d) (h' : Vl l r s y f) (hr : r ≠ 0) (hk : k + l ≤ 16384) : dvC p q r s = 0 ∧ Vl (k + l) (dvP p q r s) (dvQ p q r s) (x * f) (d * y) := by
 obtain ⟨h1, h2, h3, h4, h5⟩ := h
 obtain ⟨g1, g2, g3, g4, g5⟩ := h'
 obtain ⟨m1, m2⟩ := mk_le s r l g3 g2 hr
 have b1 : (muN p q (mkP s r) (mkQ s r)).natAbs < B2 (k + l) := B2.mul (b2_div h2) (b2_div m1)
 have b2 : (muD p q (mkP s r) (mkQ s r)).natAbs < B2 (k + l) := B2.mul (b2_div h3) (b2_div m2)
 have hK : muK p q (mkP s r) (mkQ s r) := ⟨b2_lim b1 hk, b2_lim b2 hk⟩
 obtain ⟨e1, e2⟩ := dv_low h1 g1 hr hK
 have hy : y ≠ 0 := fun e => by
  rw [e, Int.zero_mul] at g5
  rcases Int.mul_eq_zero.1 g5 with e | e
  ·exact hr e
  ·exact g4 e
 refine ⟨?_, e1, ?_, ?_, Int.mul_ne_zero h4 hy, ?_⟩
 ·rw [dvC, if_neg hr]; exact if_pos hK
 ·rw [dvP, if_neg hr, muP, if_pos hK]; exact b1
 ·rw [dvQ, if_neg hr, muQ, if_pos hK]; exact b2
 ·have hq := h1.1
  refine Int.eq_of_mul_eq_mul_right (Int.mul_ne_zero (Int.mul_ne_zero (show q ≠ 0 by omega) hr) g4) ?_
  obtain ⟨P, hP⟩ := nmz (dvP p q r s)
  obtain ⟨Q, hQ⟩ := nmz (dvQ p q r s)
  rw [hP, hQ] at e2 ⊢
  clear b1 b2 hK e1 h1 g1 hP hQ h2 h3 g2 g3 h4 g4 hq hk m1 m2 hy hr
  grind
theorem vl_neg {k : Nat} {p q x d : Int} (h : Vl k p q x d) : Vl k (-p) q (-x) d := by
 obtain ⟨h1, h2, h3, h4, h5⟩ := h
 refine ⟨⟨h1.1, by rw [Int.natAbs_neg]; exact h1.2⟩, by rw [Int.natAbs_neg]; exact h2, h3, h4, ?_⟩
 rw [Int.neg_mul, Int.neg_mul, h5]
theorem cmp_le {a b : Int} (h : cmpI a b ≤ 0) : a ≤ b := by
 unfold cmpI at h
 split at h
 ·omega
 ·split at h
  ·omega
  ·omega
theorem le_cmp {a b : Int} (h : a ≤ b) : cmpI a b ≤ 0 := by
 unfold cmpI
 split
 ·omega
 ·split
  ·omega
  ·omega
theorem cmp_bound (a b : Int) : -1 ≤ cmpI a b ∧ cmpI a b ≤ 1 := by
 unfold cmpI
 split
 ·omega
 ·split
  ·omega
  ·omega
theorem cmp_turn (a b : Int) : cmpI b a = -cmpI a b := by
 unfold cmpI
 split <;> split <;> (try split) <;> (try split) <;> omega
theorem cmp_nil {a b : Int} (h : cmpI a b = 0) : a = b := by
 unfold cmpI at h
 split at h
 ·omega
 ·split at h
  ·omega
  ·omega
theorem eq_cmp {p q r s : Int} (h : Low p q) (h' : Low r s) : eqF p q r s = (cmpI (p * s) (r * q) == 0) := by
 unfold eqF
 by_cases e : p = r ∧ q = s
 ·rw [decide_eq_true e, e.1, e.2, cmpI_same rfl]; rfl
 ·rw [decide_eq_false e]
  symm
  rw [beq_eq_false_iff_ne]
  exact fun z => e (low_eq h h' (cmp_nil z))
theorem cmp_trans {p q r s t u : Int} (hq : 0 < q) (hs : 0 < s) (hu : 0 < u) (h1 : cmpI (p * s) (r * q) ≤ 0) (h2 : cmpI (r * u) (t * s) ≤ 0) : cmpI (p * u) (t * q) ≤ 0 := by
 refine le_cmp ?_
 have e1 := Int.mul_le_mul_of_nonneg_right (cmp_le h1) (show 0 ≤ u by omega)
 have e2 := Int.mul_le_mul_of_nonneg_right (cmp_le h2) (show 0 ≤ q by omega)
 refine Int.le_of_mul_le_mul_right (show p * u * s ≤ t * q * s from ?_) hs
 have i1 : p * u * s = p * s * u := by ac_rfl
 have i2 : t * q * s = t * s * q := by ac_rfl
 have i3 : r * q * u = r * u * q := by ac_rfl
 rw [i1, i2]
 omega
theorem add_keeps {k l : Nat} {p q r s t u P Q P' Q' : Int} (hq : 0 < q) (hs : 0 < s) (hu : 0 < u) (h : Vl k P Q (p * u + t * q) (q * u)) (h' : Vl l P' Q' (r * u + t * s) (s * u)) : cmpI (P * Q') (P' * Q) = cmpI (p * s) (r * q) := by
 rw [cmp_low h.1.1 h'.1.1 (Int.mul_pos hq hu) (Int.mul_pos hs hu) h.2.2.2.2 h'.2.2.2.2]
 clear h h'
 have e1 : (p * u + t * q) * (s * u) = u * u * (p * s) + t * q * (s * u) := by grind
 have e2 : (r * u + t * s) * (q * u) = u * u * (r * q) + t * q * (s * u) := by grind
 rw [e1, e2]
 exact cmpI_lin (Int.mul_pos hu hu)
theorem mul_keeps {k l : Nat} {p q r s t u P Q P' Q' : Int} (hq : 0 < q) (hs : 0 < s) (hu : 0 < u) (h : Vl k P Q (p * t) (q * u)) (h' : Vl l P' Q' (r * t) (s * u)) : cmpI (P * Q') (P' * Q) = cmpI (p * s) (r * q) * cmpI t 0 := by
 rw [cmp_low h.1.1 h'.1.1 (Int.mul_pos hq hu) (Int.mul_pos hs hu) h.2.2.2.2 h'.2.2.2.2]
 clear h h'
 have e1 : p * t * (s * u) = (t * u) * (p * s) := by ac_rfl
 have e2 : r * t * (q * u) = (t * u) * (r * q) := by ac_rfl
 rw [e1, e2]
 rcases Int.lt_trichotomy t 0 with ht | rfl | ht
 ·have h1 : 0 < -t * u := Int.mul_pos (by omega) hu
  have e3 : t * u * (p * s) = -(-t * u * (p * s)) := by rw [Int.neg_mul, Int.neg_mul, Int.neg_neg]
  have e4 : t * u * (r * q) = -(-t * u * (r * q)) := by rw [Int.neg_mul, Int.neg_mul, Int.neg_neg]
  rw [e3, e4, show cmpI (-(-t * u * (p * s))) (-(-t * u * (r * q))) = cmpI (-t * u * (r * q)) (-t * u * (p * s)) from by unfold cmpI; split <;> split <;> (try split) <;> (try split) <;> omega]
  rw [cmpI_mul' h1, cmp_turn, cmpI_less ht]
  omega
 ·rw [Int.zero_mul, Int.zero_mul, Int.zero_mul, cmpI_same rfl]
  simp
 ·rw [cmpI_mul' (Int.mul_pos ht hu), cmpI_gt' ht]
  omega
theorem med_left {p q r s P Q : Int} (hq : 0 < q) (hs : 0 < s) (hl : Low P Q) (e : P * (q + s) = (p + r) * Q) : cmpI (p * Q) (P * q) = cmpI (p * s) (r * q) := by
 rw [cmp_low (p := p) (q := q) (r := P) (s := Q) (x := p) (d := q) (y := p + r) (f := q + s) hq hl.1 hq (by omega) rfl e, Int.mul_add, Int.add_mul]
 exact cmpI_add
theorem med_right {p q r s P Q : Int} (hq : 0 < q) (hs : 0 < s) (hl : Low P Q) (e : P * (q + s) = (p + r) * Q) : cmpI (P * s) (r * Q) = cmpI (p * s) (r * q) := by
 rw [cmp_low (p := P) (q := Q) (r := r) (s := s) (x := p + r) (d := q + s) (y := r) (f := s) hl.1 hs (by omega) hs e rfl, Int.mul_add, Int.add_mul, Int.add_comm (p * s), Int.add_comm (r * q)]
 exact cmpI_add
theorem sgn_bound {a b : Int} (ha : -1 ≤ a ∧ a ≤ 1) (hb : -1 ≤ b ∧ b ≤ 1) : -1 ≤ a * b ∧ a * b ≤ 1 := by
 have h1 : a = -1 ∨ a = 0 ∨ a = 1 := by omega
 rcases h1 with rfl | rfl | rfl <;> omega
end Go.Proofs.YtbhnaffbgggabaaGreat
