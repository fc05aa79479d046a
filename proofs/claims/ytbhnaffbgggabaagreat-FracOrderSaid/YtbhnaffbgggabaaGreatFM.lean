/- Sums, products and quotients of fractions in lowest terms are what the reference's Make returns for theirs. No walk. -/
import Derived.Test.YtbhnaffbgggabaaGreatQM
namespace Go.Proofs.YtbhnaffbgggabaaGreat
/-- Add of the reference: the steps' numerator and denominator, shortened. -/
theorem ad_ref {p q r s : Int} (h : Low p q) (h' : Low r s) (hk : adK p q r s) : adP p q r s = mkP (adN p q r s) (adD q s) ∧ adQ p q r s = mkQ (adN p q r s) (adD q s) := by
 obtain ⟨h1, h2⟩ := ad_low h h' hk
 obtain ⟨g, a, b, hg, e, ha, hb, _⟩ := gcd_parts q s (by have := h'.1; omega)
 have hG : adG q s = g := e
 have qa : q / g = a := by rw [ha, Int.mul_ediv_cancel_left _ (by omega)]
 have sb : s / g = b := by rw [hb, Int.mul_ediv_cancel_left _ (by omega)]
 have hN : adN p q r s = p * b + r * a := by unfold adN; rw [hG, qa, sb]
 have hD : adD q s = a * s := by unfold adD; rw [hG, qa]
 have a0 : 0 < a := Int.pos_of_mul_pos_right (by rw [← ha]; exact h.1) hg
 rw [hN, hD]
 refine low_mk h1 (Int.mul_pos a0 h'.1) ?_
 refine Int.eq_of_mul_eq_mul_right (show g ≠ 0 by omega) ?_
 have e1 : (p * b + r * a) * g = p * s + r * q := by
  rw [Int.add_mul, ha, hb]
  have i1 : p * b * g = p * (g * b) := by ac_rfl
  have i2 : r * a * g = r * (g * a) := by ac_rfl
  rw [i1, i2]
 have e2 : adP p q r s * (a * s) * g = adP p q r s * (q * s) := by
  rw [ha]
  generalize adP p (g * a) r s = P
  ac_rfl
 rw [e2, h2, ← e1]
 generalize adQ p q r s = Q
 ac_rfl
theorem mu_eq {p q r s : Int} (h : Low p q) (h' : Low r s) : Low (muN p q r s) (muD p q r s) ∧ muN p q r s = mkP (p * r) (q * s) ∧ muD p q r s = mkQ (p * r) (q * s) := by
 obtain ⟨g, p', s', hg, e, hp, hs, hc⟩ := gcd_parts p s (by have := h'.1; omega)
 obtain ⟨k, r', q', hk0, e', hr, hq, hc'⟩ := gcd_parts r q (by have := h.1; omega)
 have s0 : 0 < s' := Int.pos_of_mul_pos_right (by rw [← hs]; exact h'.1) hg
 have q0 : 0 < q' := Int.pos_of_mul_pos_right (by rw [← hq]; exact h.1) hk0
 have hA : muA p s = g := e
 have hB : muA r q = k := e'
 have d1 : p / g = p' := by rw [hp, Int.mul_ediv_cancel_left _ (by omega)]
 have d2 : r / k = r' := by rw [hr, Int.mul_ediv_cancel_left _ (by omega)]
 have d3 : q / k = q' := by rw [hq, Int.mul_ediv_cancel_left _ (by omega)]
 have d4 : s / g = s' := by rw [hs, Int.mul_ediv_cancel_left _ (by omega)]
 have eP : muN p q r s = p' * r' := by rw [muN, hA, hB, d1, d2]
 have eQ : muD p q r s = q' * s' := by rw [muD, hA, hB, d3, d4]
 have dp : p'.natAbs ∣ p.natAbs := by rw [hp, Int.natAbs_mul]; exact Nat.dvd_mul_left _ _
 have dq : q'.natAbs ∣ q.natAbs := by rw [hq, Int.natAbs_mul]; exact Nat.dvd_mul_left _ _
 have dr : r'.natAbs ∣ r.natAbs := by rw [hr, Int.natAbs_mul]; exact Nat.dvd_mul_left _ _
 have ds : s'.natAbs ∣ s.natAbs := by rw [hs, Int.natAbs_mul]; exact Nat.dvd_mul_left _ _
 have hl : Low (p' * r') (q' * s') := by
  refine ⟨Int.mul_pos q0 s0, ?_⟩
  rw [Int.natAbs_mul, Int.natAbs_mul]
  exact Nat.Coprime.mul_left (Nat.Coprime.mul_right (Nat.Coprime.coprime_dvd_left dp (Nat.Coprime.coprime_dvd_right dq h.2)) hc) (Nat.Coprime.mul_right hc' (Nat.Coprime.coprime_dvd_left dr (Nat.Coprime.coprime_dvd_right ds h'.2)))
 rw [eP, eQ]
 refine ⟨hl, low_mk hl (Int.mul_pos h.1 h'.1) ?_⟩
 conv => lhs; rw [hq, hs]
 conv => rhs; rw [hp, hr]
 ac_rfl
/-- Div of the reference, for a divisor that is not 0. -/
theorem dv_eq {p q r s : Int} (h : Low p q) (hr : r ≠ 0) : Low (muN p q (mkP s r) (mkQ s r)) (muD p q (mkP s r) (mkQ s r)) ∧ muN p q (mkP s r) (mkQ s r) = mkP (p * s) (q * r) ∧ muD p q (mkP s r) (mkQ s r) = mkQ (p * s) (q * r) := by
 obtain ⟨hl, he⟩ := mk_low' s r hr
 obtain ⟨h1, h2, h3⟩ := mu_eq h hl
 refine ⟨h1, ?_⟩
 have hq : q * r ≠ 0 := Int.mul_ne_zero (by have := h.1; omega) hr
 refine low_mk' h1 hq ?_
 obtain ⟨g1, g2⟩ := mk_low (p * mkP s r) (q * mkQ s r) (Int.mul_pos h.1 hl.1)
 rw [← h2, ← h3] at g2
 obtain ⟨N, hN⟩ := nmz (muN p q (mkP s r) (mkQ s r))
 obtain ⟨D, hD⟩ := nmz (muD p q (mkP s r) (mkQ s r))
 obtain ⟨P, hP⟩ := nmz (mkP s r)
 obtain ⟨Q, hQ⟩ := nmz (mkQ s r)
 rw [hN, hD] at g2 ⊢
 rw [hP, hQ] at g2
 rw [hP, hQ] at he
 have hQ0 : Q ≠ 0 := by have := hl.1; rw [hQ] at this; omega
 clear hN hD hP hQ h1 h2 h3 g1 hl
 refine Int.eq_of_mul_eq_mul_right hQ0 ?_
 calc N * (q * r) * Q = N * (q * Q) * r := by ac_rfl
  _ = p * (P * r) * D := by rw [g2]; ac_rfl
  _ = p * s * D * Q := by rw [he]; ac_rfl
/-- The texts of fractions in lowest terms. -/
theorem mk_self {p q : Int} (h : Low p q) : mkP p q = p ∧ mkQ p q = q := low_self h
end Go.Proofs.YtbhnaffbgggabaaGreat
