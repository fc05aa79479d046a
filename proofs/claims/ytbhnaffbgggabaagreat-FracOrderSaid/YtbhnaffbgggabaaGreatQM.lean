/- Lowest terms of fractions. No walk. -/
import Derived.Test.YtbhnaffbgggabaaGreatFI
namespace Go.Proofs.YtbhnaffbgggabaaGreat
/-- A fraction in lowest terms. -/
def Low (p q : Int) : Prop := 0 < q ∧ Nat.Coprime p.natAbs q.natAbs
theorem gcd_parts (a b : Int) (h : b ≠ 0) : ∃ g a' b' : Int, 0 < g ∧ ((Nat.gcd a.natAbs b.natAbs : Nat) : Int) = g ∧ a = g * a' ∧ b = g * b' ∧ Nat.Coprime a'.natAbs b'.natAbs := by
  have hg : 0 < Nat.gcd a.natAbs b.natAbs := Nat.gcd_pos_of_pos_right _ (by omega)
  obtain ⟨a', ha⟩ : ((Nat.gcd a.natAbs b.natAbs : Nat) : Int) ∣ a := Int.ofNat_dvd_left.2 (Nat.gcd_dvd_left _ _)
  obtain ⟨b', hb⟩ : ((Nat.gcd a.natAbs b.natAbs : Nat) : Int) ∣ b := Int.ofNat_dvd_left.2 (Nat.gcd_dvd_right _ _)
  refine ⟨_, a', b', by omega, rfl, ha, hb, ?_⟩
  have h1 : a.natAbs / Nat.gcd a.natAbs b.natAbs = a'.natAbs := by
    conv => lhs; lhs; rw [ha]
    rw [Int.natAbs_mul, Int.natAbs_natCast, Nat.mul_div_cancel_left _ hg]
  have h2 : b.natAbs / Nat.gcd a.natAbs b.natAbs = b'.natAbs := by
    conv => lhs; lhs; rw [hb]
    rw [Int.natAbs_mul, Int.natAbs_natCast, Nat.mul_div_cancel_left _ hg]
  have := Nat.coprime_div_gcd_div_gcd hg
  rwa [h1, h2] at this
theorem mk_low (x d : Int) (hd : 0 < d) : Low (mkP x d) (mkQ x d) ∧ mkP x d * d = x * mkQ x d := by
  obtain ⟨g, a, b, hg, e, ha, hb, hc⟩ := gcd_parts x d (by omega)
  have hD : mkD x d = g := by unfold mkD; rw [if_neg (by omega), e]
  have hP : mkP x d = a := by unfold mkP; rw [if_neg (by omega), hD, ha, Int.mul_ediv_cancel_left _ (by omega)]
  have hQ : mkQ x d = b := by unfold mkQ; rw [if_neg (by omega), hD, hb, Int.mul_ediv_cancel_left _ (by omega)]
  rw [hP, hQ]
  refine ⟨⟨?_, hc⟩, ?_⟩
  · exact Int.pos_of_mul_pos_right (by rw [← hb]; exact hd) hg
  · rw [ha, hb, Int.mul_left_comm, Int.mul_assoc]
theorem low_eq {p q p' q' : Int} (h : Low p q) (h' : Low p' q') (e : p * q' = p' * q) : p = p' ∧ q = q' := by
  have en : p.natAbs * q'.natAbs = p'.natAbs * q.natAbs := by rw [← Int.natAbs_mul, e, Int.natAbs_mul]
  have d1 : q.natAbs ∣ q'.natAbs := h.2.symm.dvd_of_dvd_mul_left (en ▸ Nat.dvd_mul_left _ _)
  have d2 : q'.natAbs ∣ q.natAbs := h'.2.symm.dvd_of_dvd_mul_left (en ▸ Nat.dvd_mul_left _ _)
  have eq : q = q' := by have := Nat.dvd_antisymm d1 d2; have := h.1; have := h'.1; omega
  subst eq
  exact ⟨Int.eq_of_mul_eq_mul_right (by have := h.1; omega) e, rfl⟩
theorem low_mk {p q x d : Int} (h : Low p q) (hd : 0 < d) (e : p * d = x * q) : p = mkP x d ∧ q = mkQ x d := by
  obtain ⟨hl, he⟩ := mk_low x d hd
  refine low_eq h hl ?_
  refine Int.eq_of_mul_eq_mul_right (show d ≠ 0 by omega) ?_
  rw [Int.mul_right_comm, e, Int.mul_right_comm, ← he, Int.mul_right_comm]
theorem low_self {p q : Int} (h : Low p q) : mkP p q = p ∧ mkQ p q = q := by
  obtain ⟨h1, h2⟩ := low_mk h h.1 rfl
  exact ⟨h1.symm, h2.symm⟩
theorem low_one (p : Int) : Low p 1 := ⟨by decide, by simp⟩
theorem cop_add {a b n : Nat} {x y : Int} (h : Nat.Coprime x.natAbs n) (hy : (n : Int) ∣ y) (_ : a = b) : Nat.Coprime (x + y).natAbs n := by
  unfold Nat.Coprime at h ⊢
  have e1 : Nat.gcd (x + y).natAbs n = Int.gcd (x + y) n := rfl
  have e2 : Nat.gcd x.natAbs n = Int.gcd x n := rfl
  obtain ⟨k, rfl⟩ := hy
  rw [e1, Int.gcd_add_mul_left_left]
  rw [← e2]; exact h
theorem ad_low {p q r s : Int} (h : Low p q) (h' : Low r s) (hk : adK p q r s) : Low (adP p q r s) (adQ p q r s) ∧ adP p q r s * (q * s) = (p * s + r * q) * adQ p q r s := by
  obtain ⟨g, a, b, hg, e, ha, hb, hc⟩ := gcd_parts q s (by have := h'.1; omega)
  have hG : adG q s = g := e
  have qa : q / g = a := by rw [ha, Int.mul_ediv_cancel_left _ (by omega)]
  have sb : s / g = b := by rw [hb, Int.mul_ediv_cancel_left _ (by omega)]
  have hN : adN p q r s = p * b + r * a := by unfold adN; rw [hG, qa, sb]
  have hD : adD q s = a * s := by unfold adD; rw [hG, qa]
  have a0 : 0 < a := Int.pos_of_mul_pos_right (by rw [← ha]; exact h.1) hg
  have b0 : 0 < b := Int.pos_of_mul_pos_right (by rw [← hb]; exact h'.1) hg
  -- the numerator has no divisor in common with a or b
  have pa : Nat.Coprime p.natAbs a.natAbs := Nat.Coprime.coprime_dvd_right (by rw [ha, Int.natAbs_mul]; exact Nat.dvd_mul_left _ _) h.2
  have rb : Nat.Coprime r.natAbs b.natAbs := Nat.Coprime.coprime_dvd_right (by rw [hb, Int.natAbs_mul]; exact Nat.dvd_mul_left _ _) h'.2
  have na : Nat.Coprime (p * b + r * a).natAbs a.natAbs := by
    refine cop_add (a := 0) (b := 0) ?_ ?_ rfl
    · rw [Int.natAbs_mul]; exact Nat.Coprime.mul_left pa hc.symm
    · exact Int.dvd_trans (Int.natAbs_dvd.2 (Int.dvd_refl a)) (Int.dvd_mul_left _ _)
  have nb : Nat.Coprime (p * b + r * a).natAbs b.natAbs := by
    rw [Int.add_comm]
    refine cop_add (a := 0) (b := 0) ?_ ?_ rfl
    · rw [Int.natAbs_mul]; exact Nat.Coprime.mul_left rb hc
    · exact Int.dvd_trans (Int.natAbs_dvd.2 (Int.dvd_refl b)) (Int.dvd_mul_left _ _)
  obtain ⟨n, hn⟩ : ∃ n, p * b + r * a = n := ⟨_, rfl⟩
  rw [hn] at na nb hN
  obtain ⟨k, n', g', hk0, ke, hn', hg', hc'⟩ := gcd_parts n g (by omega)
  have hH : adH p q r s = k := by unfold adH; rw [hN, hG]; exact ke
  have g0 : 0 < g' := Int.pos_of_mul_pos_right (by rw [← hg']; exact hg) hk0
  have eP : adP p q r s = n' := by unfold adP; rw [if_pos hk, hN, hH, hn', Int.mul_ediv_cancel_left _ (by omega)]
  have eD : a * s = k * (a * (g' * b)) := by rw [hb, hg']; ac_rfl
  have eQ : adQ p q r s = a * (g' * b) := by unfold adQ; rw [if_pos hk, hD, hH, eD, Int.mul_ediv_cancel_left _ (by omega)]
  have dn' : n'.natAbs ∣ n.natAbs := by rw [hn', Int.natAbs_mul]; exact Nat.dvd_mul_left _ _
  rw [eP, eQ]
  refine ⟨⟨Int.mul_pos a0 (Int.mul_pos g0 b0), ?_⟩, ?_⟩
  · rw [Int.natAbs_mul, Int.natAbs_mul]
    exact Nat.Coprime.mul_right (Nat.Coprime.coprime_dvd_left dn' na) (Nat.Coprime.mul_right hc' (Nat.Coprime.coprime_dvd_left dn' nb))
  · have e1 : p * s + r * q = g * n := by rw [← hn, Int.mul_add, ha, hb]; ac_rfl
    rw [e1, hn']
    conv => lhs; rw [ha, hb]
    conv => lhs; rw [hg']
    conv => rhs; rw [hg']
    ac_rfl
theorem mu_low {p q r s : Int} (h : Low p q) (h' : Low r s) (hk : muK p q r s) : Low (muP p q r s) (muQ p q r s) ∧ muP p q r s * (q * s) = p * r * muQ p q r s := by
  obtain ⟨g, p', s', hg, e, hp, hs, hc⟩ := gcd_parts p s (by have := h'.1; omega)
  obtain ⟨k, r', q', hk0, e', hr, hq, hc'⟩ := gcd_parts r q (by have := h.1; omega)
  have s0 : 0 < s' := Int.pos_of_mul_pos_right (by rw [← hs]; exact h'.1) hg
  have q0 : 0 < q' := Int.pos_of_mul_pos_right (by rw [← hq]; exact h.1) hk0
  have hA : muA p s = g := e
  have hB : muA r q = k := e'
  have d1 : p / g = p' := by rw [hp, Int.mul_ediv_cancel_left _ (by omega)]
  have d2 : r / k = r' := by rw [hr, Int.mul_ediv_cancel_left _ (by omega)]
  have d3 : q / k = q' := by rw [hq, Int.mul_ediv_cancel_left _ (by omega)]
  have d4 : s / g = s' := by rw [hs, Int.mul_ediv_cancel_left _ (by omega)]
  have eP : muP p q r s = p' * r' := by unfold muP; rw [if_pos hk, muN, hA, hB, d1, d2]
  have eQ : muQ p q r s = q' * s' := by unfold muQ; rw [if_pos hk, muD, hA, hB, d3, d4]
  have dp : p'.natAbs ∣ p.natAbs := by rw [hp, Int.natAbs_mul]; exact Nat.dvd_mul_left _ _
  have dq : q'.natAbs ∣ q.natAbs := by rw [hq, Int.natAbs_mul]; exact Nat.dvd_mul_left _ _
  have dr : r'.natAbs ∣ r.natAbs := by rw [hr, Int.natAbs_mul]; exact Nat.dvd_mul_left _ _
  have ds : s'.natAbs ∣ s.natAbs := by rw [hs, Int.natAbs_mul]; exact Nat.dvd_mul_left _ _
  rw [eP, eQ]
  refine ⟨⟨Int.mul_pos q0 s0, ?_⟩, ?_⟩
  · rw [Int.natAbs_mul, Int.natAbs_mul]
    exact Nat.Coprime.mul_left (Nat.Coprime.mul_right (Nat.Coprime.coprime_dvd_left dp (Nat.Coprime.coprime_dvd_right dq h.2)) hc) (Nat.Coprime.mul_right hc' (Nat.Coprime.coprime_dvd_left dr (Nat.Coprime.coprime_dvd_right ds h'.2)))
  · conv => lhs; rw [hq, hs]
    conv => rhs; rw [hp, hr]
    ac_rfl
theorem cmpI_lin {n a b c : Int} (h : 0 < n) : cmpI (n * a + c) (n * b + c) = cmpI a b := by
  have h1 : n * a < n * b ↔ a < b := ⟨fun g => Int.lt_of_mul_lt_mul_left g (by omega), fun g => Int.mul_lt_mul_of_pos_left g h⟩
  have h2 : n * b < n * a ↔ b < a := ⟨fun g => Int.lt_of_mul_lt_mul_left g (by omega), fun g => Int.mul_lt_mul_of_pos_left g h⟩
  unfold cmpI
  by_cases g1 : a < b
  · rw [if_pos g1, if_pos (by have := h1.2 g1; omega)]
  · by_cases g2 : b < a
    · rw [if_neg g1, if_pos g2, if_neg (by have := h2.2 g2; omega), if_pos (by have := h2.2 g2; omega)]
    · obtain rfl : a = b := by omega
      simp
theorem mk_low' (x d : Int) (hd : d ≠ 0) : Low (mkP x d) (mkQ x d) ∧ mkP x d * d = x * mkQ x d := by
  rcases Int.lt_or_gt_of_ne hd with hn | hp
  · obtain ⟨g, a, b, hg, e, ha, hb, hc⟩ := gcd_parts x d hd
    have hD : mkD x d = -g := by unfold mkD; rw [if_pos hn, e]
    have hP : mkP x d = -a := by unfold mkP; rw [if_neg hd, hD, Int.ediv_neg, ha, Int.mul_ediv_cancel_left _ (by omega)]
    have hQ : mkQ x d = -b := by unfold mkQ; rw [if_neg hd, hD, Int.ediv_neg, hb, Int.mul_ediv_cancel_left _ (by omega)]
    rw [hP, hQ]
    refine ⟨⟨?_, by rw [Int.natAbs_neg, Int.natAbs_neg]; exact hc⟩, ?_⟩
    · exact Int.pos_of_mul_pos_right (show 0 < g * -b by rw [Int.mul_neg, ← hb]; omega) hg
    · rw [ha, hb, Int.mul_neg, Int.neg_mul, Int.mul_left_comm, Int.mul_assoc]
  · exact mk_low x d hp
theorem low_mk' {p q x d : Int} (h : Low p q) (hd : d ≠ 0) (e : p * d = x * q) : p = mkP x d ∧ q = mkQ x d := by
  obtain ⟨hl, he⟩ := mk_low' x d hd
  refine low_eq h hl ?_
  refine Int.eq_of_mul_eq_mul_right hd ?_
  rw [Int.mul_right_comm, e, Int.mul_right_comm, ← he, Int.mul_right_comm]
theorem dv_low {p q r s : Int} (h : Low p q) (_ : Low r s) (hr : r ≠ 0) (hk : muK p q (mkP s r) (mkQ s r)) : Low (dvP p q r s) (dvQ p q r s) ∧ dvP p q r s * (q * r) = p * s * dvQ p q r s := by
  obtain ⟨hl, he⟩ := mk_low' s r hr
  obtain ⟨h1, h2⟩ := mu_low h hl hk
  have e1 : dvP p q r s = muP p q (mkP s r) (mkQ s r) := if_neg hr
  have e2 : dvQ p q r s = muQ p q (mkP s r) (mkQ s r) := if_neg hr
  rw [e1, e2]
  refine ⟨h1, ?_⟩
  obtain ⟨N, hN⟩ : ∃ N, muP p q (mkP s r) (mkQ s r) = N := ⟨_, rfl⟩
  obtain ⟨D, hD⟩ : ∃ D, muQ p q (mkP s r) (mkQ s r) = D := ⟨_, rfl⟩
  rw [hN, hD] at h2 ⊢
  have hq : mkQ s r ≠ 0 := by have := hl.1; omega
  refine Int.eq_of_mul_eq_mul_right hq ?_
  calc N * (q * r) * mkQ s r = N * (q * mkQ s r) * r := by ac_rfl
    _ = p * (mkP s r * r) * D := by rw [h2]; ac_rfl
    _ = p * s * D * mkQ s r := by rw [he]; ac_rfl
theorem cmp_low {p q r s x d y f : Int} (hq : 0 < q) (hs : 0 < s) (hd : 0 < d) (hf : 0 < f) (e : p * d = x * q) (e' : r * f = y * s) : cmpI (p * s) (r * q) = cmpI (x * f) (y * d) := by
  rw [← cmpI_mul (a := p * s) (b := r * q) (Int.mul_pos hd hf), ← cmpI_mul (a := x * f) (b := y * d) (Int.mul_pos hq hs)]
  have e1 : p * s * (d * f) = x * f * (q * s) := by
    calc p * s * (d * f) = p * d * (s * f) := by ac_rfl
      _ = x * f * (q * s) := by rw [e]; ac_rfl
  have e2 : r * q * (d * f) = y * d * (q * s) := by
    calc r * q * (d * f) = r * f * (q * d) := by ac_rfl
      _ = y * d * (q * s) := by rw [e']; ac_rfl
  rw [e1, e2]
theorem cmpI_mul' {a b c : Int} (hc : 0 < c) : cmpI (c * a) (c * b) = cmpI a b := by rw [Int.mul_comm c a, Int.mul_comm c b]; exact cmpI_mul hc
end Go.Proofs.YtbhnaffbgggabaaGreat
