/- Lowest terms of fractions. No walk. -/
import Derived.Test.YtfmccalkfagafaaYPH
namespace Go.Proofs.Ytfmccalkfagafaa
/-- A fraction in lowest terms. -/
def Low (p q : Int) : Prop := 0 < q ∧ Nat.Coprime p.natAbs q.natAbs
theorem gcd_parts (a b : Int) (h : b ≠ 0) : ∃ g a' b' : Int, 0 < g ∧ ((Nat.gcd a.natAbs b.natAbs : Nat) : Int) = g ∧ a = g * a' ∧ b = g * b' ∧ Nat.Coprime a'.natAbs b'.natAbs := by
  have hg : 0 < Nat.gcd a.natAbs b.natAbs := Nat.gcd_pos_of_pos_right _ (by omega)
  obtain ⟨a', ha⟩ : ((Nat.gcd a.natAbs b.natAbs : Nat) : Int) ∣ a := Int.ofNat_dvd_left.2 (Nat.gcd_dvd_left _ _)
  obtain ⟨b', hb⟩ : ((Nat.gcd a.natAbs b.natAbs : Nat) : Int) ∣ b := Int.ofNat_dvd_left.2 (Nat.gcd_dvd_right _ _)
  refine ⟨_, a', b', by omega, rfl, ha, hb, ?_⟩
  have h1 : a.natAbs / Nat.gcd a.natAbs b.natAbs = a'.natAbs := by
    conv => lhs; lhs; rw [ha]
    rw [Int.natAbs_mul, Int.natAbs_natCast, Nat.mul_div_cancel_left _ hg]
  have h2 : b.natAbs / Nat.gcd a.natAbs b.natAbs = b'.natAbs := by
    conv => lhs; lhs; rw [hb]
    rw [Int.natAbs_mul, Int.natAbs_natCast, Nat.mul_div_cancel_left _ hg]
  have := Nat.coprime_div_gcd_div_gcd hg
  rwa [h1, h2] at this
theorem mk_low (x d : Int) (hd : 0 < d) : Low (mkP x d) (mkQ x d) ∧ mkP x d * d = x * mkQ x d := by
  obtain ⟨g, a, b, hg, e, ha, hb, hc⟩ := gcd_parts x d (by omega)
  have hD : mkD x d = g := by unfold mkD; rw [if_neg (by omega), e]
  have hP : mkP x d = a := by unfold mkP; rw [if_neg (by omega), hD, ha, Int.mul_ediv_cancel_left _ (by omega)]
  have hQ : mkQ x d = b := by unfold mkQ; rw [if_neg (by omega), hD, hb, Int.mul_ediv_cancel_left _ (by omega)]
  rw [hP, hQ]
  refine ⟨⟨?_, hc⟩, ?_⟩
  · exact Int.pos_of_mul_pos_right (by rw [← hb]; exact hd) hg
  · rw [ha, hb, Int.mul_left_comm, Int.mul_assoc]
theorem low_eq {p q p' q' : Int} (h : Low p q) (h' : Low p' q') (e : p * q' = p' * q) : p = p' ∧ q = q' := by
  have en : p.natAbs * q'.natAbs = p'.natAbs * q.natAbs := by rw [← Int.natAbs_mul, e, Int.natAbs_mul]
  have d1 : q.natAbs ∣ q'.natAbs := h.2.symm.dvd_of_dvd_mul_left (en ▸ Nat.dvd_mul_left _ _)
  have d2 : q'.natAbs ∣ q.natAbs := h'.2.symm.dvd_of_dvd_mul_left (en ▸ Nat.dvd_mul_left _ _)
  have eq : q = q' := by have := Nat.dvd_antisymm d1 d2; have := h.1; have := h'.1; omega
  subst eq
  exact ⟨Int.eq_of_mul_eq_mul_right (by have := h.1; omega) e, rfl⟩
theorem low_mk {p q x d : Int} (h : Low p q) (hd : 0 < d) (e : p * d = x * q) : p = mkP x d ∧ q = mkQ x d := by
  obtain ⟨hl, he⟩ := mk_low x d hd
  refine low_eq h hl ?_
  refine Int.eq_of_mul_eq_mul_right (show d ≠ 0 by omega) ?_
  rw [Int.mul_right_comm, e, Int.mul_right_comm, ← he, Int.mul_right_comm]
theorem low_one (p : Int) : Low p 1 := ⟨by decide, by simp⟩
theorem cop_add {a b n : Nat} {x y : Int} (h : Nat.Coprime x.natAbs n) (hy : (n : Int) ∣ y) (_ : a = b) : Nat.Coprime (x + y).natAbs n := by
  unfold Nat.Coprime at h ⊢
  have e1 : Nat.gcd (x + y).natAbs n = Int.gcd (x + y) n := rfl
  have e2 : Nat.gcd x.natAbs n = Int.gcd x n := rfl
  obtain ⟨k, rfl⟩ := hy
  rw [e1, Int.gcd_add_mul_left_left]
  rw [← e2]; exact h
theorem ad_low {p q r s : Int} (h : Low p q) (h' : Low r s) (hk : adK p q r s) : Low (adP p q r s) (adQ p q r s) ∧ adP p q r s * (q * s) = (p * s + r * q) * adQ p q r s := by
  obtain ⟨g, a, b, hg, e, ha, hb, hc⟩ := gcd_parts q s (by have := h'.1; omega)
  have hG : adG q s = g := e
  have qa : q / g = a := by rw [ha, Int.mul_ediv_cancel_left _ (by omega)]
  have sb : s / g = b := by rw [hb, Int.mul_ediv_cancel_left _ (by omega)]
  have hN : adN p q r s = p * b + r * a := by unfold adN; rw [hG, qa, sb]
  have hD : adD q s = a * s := by unfold adD; rw [hG, qa]
  have a0 : 0 < a := Int.pos_of_mul_pos_right (by rw [← ha]; exact h.1) hg
  have b0 : 0 < b := Int.pos_of_mul_pos_right (by rw [← hb]; exact h'.1) hg
  -- the numerator has no divisor in common with a or b
  have pa : Nat.Coprime p.natAbs a.natAbs := Nat.Coprime.coprime_dvd_right (by rw [ha, Int.natAbs_mul]; exact Nat.dvd_mul_left _ _) h.2
  have rb : Nat.Coprime r.natAbs b.natAbs := Nat.Coprime.coprime_dvd_right (by rw [hb, Int.natAbs_mul]; exact Nat.dvd_mul_left _ _) h'.2
  have na : Nat.Coprime (p * b + r * a).natAbs a.natAbs := by
    refine cop_add (a := 0) (b := 0) ?_ ?_ rfl
    · rw [Int.natAbs_mul]; exact Nat.Coprime.mul_left pa hc.symm
    · exact Int.dvd_trans (Int.natAbs_dvd.2 (Int.dvd_refl a)) (Int.dvd_mul_left _ _)
  have nb : Nat.Coprime (p * b + r * a).natAbs b.natAbs := by
    rw [Int.add_comm]
    refine cop_add (a := 0) (b := 0) ?_ ?_ rfl
    · rw [Int.natAbs_mul]; exact Nat.Coprime.mul_left rb hc
    · exact Int.dvd_trans (Int.natAbs_dvd.2 (Int.dvd_refl b)) (Int.dvd_mul_left _ _)
  obtain ⟨n, hn⟩ : ∃ n, p * b + r * a = n := ⟨_, rfl⟩
  rw [hn] at na nb hN
  obtain ⟨k, n', g', hk0, ke, hn', hg', hc'⟩ := gcd_parts n g (by omega)
  have hH : adH p q r s = k := by unfold adH; rw [hN, hG]; exact ke
  have g0 : 0 < g' := Int.pos_of_mul_pos_right (by rw [← hg']; exact hg) hk0
  have eP : adP p q r s = n' := by unfold adP; rw [if_pos hk, hN, hH, hn', Int.mul_ediv_cancel_left _ (by omega)]
  have eD : a * s = k * (a * (g' * b)) := by rw [hb, hg']; ac_rfl
  have eQ : adQ p q r s = a * (g' * b) := by unfold adQ; rw [if_pos hk, hD, hH, eD, Int.mul_ediv_cancel_left _ (by omega)]
  have dn' : n'.natAbs ∣ n.natAbs := by rw [hn', Int.natAbs_mul]; exact Nat.dvd_mul_left _ _
  rw [eP, eQ]
  refine ⟨⟨Int.mul_pos a0 (Int.mul_pos g0 b0), ?_⟩, ?_⟩
  · rw [Int.natAbs_mul, Int.natAbs_mul]
    exact Nat.Coprime.mul_right (Nat.Coprime.coprime_dvd_left dn' na) (Nat.Coprime.mul_right hc' (Nat.Coprime.coprime_dvd_left dn' nb))
  · have e1 : p * s + r * q = g * n := by rw [← hn, Int.mul_add, ha, hb]; ac_rfl
    rw [e1, hn']
    conv => lhs; rw [ha, hb]
    conv => lhs; rw [hg']
    conv => rhs; rw [hg']
    ac_rfl
theorem mu_low {p q r s : Int} (h : Low p q) (h' : Low r s) (hk : muK p q r s) : Low (muP p q r s) (muQ p q r s) ∧ muP p q r s * (q * s) = p * r * muQ p q r s := by
  obtain ⟨g, p', s', hg, e, hp, hs, hc⟩ := gcd_parts p s (by have := h'.1; omega)
  obtain ⟨k, r', q', hk0, e', hr, hq, hc'⟩ := gcd_parts r q (by have := h.1; omega)
  have s0 : 0 < s' := Int.pos_of_mul_pos_right (by rw [← hs]; exact h'.1) hg
  have q0 : 0 < q' := Int.pos_of_mul_pos_right (by rw [← hq]; exact h.1) hk0
  have hA : muA p s = g := e
  have hB : muA r q = k := e'
  have d1 : p / g = p' := by rw [hp, Int.mul_ediv_cancel_left _ (by omega)]
  have d2 : r / k = r' := by rw [hr, Int.mul_ediv_cancel_left _ (by omega)]
  have d3 : q / k = q' := by rw [hq, Int.mul_ediv_cancel_left _ (by omega)]
  have d4 : s / g = s' := by rw [hs, Int.mul_ediv_cancel_left _ (by omega)]
  have eP : muP p q r s = p' * r' := by unfold muP; rw [if_pos hk, muN, hA, hB, d1, d2]
  have eQ : muQ p q r s = q' * s' := by unfold muQ; rw [if_pos hk, muD, hA, hB, d3, d4]
  have dp : p'.natAbs ∣ p.natAbs := by rw [hp, Int.natAbs_mul]; exact Nat.dvd_mul_left _ _
  have dq : q'.natAbs ∣ q.natAbs := by rw [hq, Int.natAbs_mul]; exact Nat.dvd_mul_left _ _
  have dr : r'.natAbs ∣ r.natAbs := by rw [hr, Int.natAbs_mul]; exact Nat.dvd_mul_left _ _
  have ds : s'.natAbs ∣ s.natAbs := by rw [hs, Int.natAbs_mul]; exact Nat.dvd_mul_left _ _
  rw [eP, eQ]
  refine ⟨⟨Int.mul_pos q0 s0, ?_⟩, ?_⟩
  · rw [Int.natAbs_mul, Int.natAbs_mul]
    exact Nat.Coprime.mul_left (Nat.Coprime.mul_right (Nat.Coprime.coprime_dvd_left dp (Nat.Coprime.coprime_dvd_right dq h.2)) hc) (Nat.Coprime.mul_right hc' (Nat.Coprime.coprime_dvd_left dr (Nat.Coprime.coprime_dvd_right ds h'.2)))
  · conv => lhs; rw [hq, hs]
    conv => rhs; rw [hp, hr]
    ac_rfl
theorem mk_low' (x d : Int) (hd : d ≠ 0) : Low (mkP x d) (mkQ x d) ∧ mkP x d * d = x * mkQ x d := by
  rcases Int.lt_or_gt_of_ne hd with hn | hp
  · obtain ⟨g, a, b, hg, e, ha, hb, hc⟩ := gcd_parts x d hd
    have hD : mkD x d = -g := by unfold mkD; rw [if_pos hn, e]
    have hP : mkP x d = -a := by unfold mkP; rw [if_neg hd, hD, Int.ediv_neg, ha, Int.mul_ediv_cancel_left _ (by omega)]
    have hQ : mkQ x d = -b := by unfold mkQ; rw [if_neg hd, hD, Int.ediv_neg, hb, Int.mul_ediv_cancel_left _ (by omega)]
    rw [hP, hQ]
    refine ⟨⟨?_, by rw [Int.natAbs_neg, Int.natAbs_neg]; exact hc⟩, ?_⟩
    · exact Int.pos_of_mul_pos_right (show 0 < g * -b by rw [Int.mul_neg, ← hb]; omega) hg
    · rw [ha, hb, Int.mul_neg, Int.neg_mul, Int.mul_left_comm, Int.mul_assoc]
  · exact mk_low x d hp
theorem low_mk' {p q x d : Int} (h : Low p q) (hd : d ≠ 0) (e : p * d = x * q) : p = mkP x d ∧ q = mkQ x d := by
  obtain ⟨hl, he⟩ := mk_low' x d hd
  refine low_eq h hl ?_
  refine Int.eq_of_mul_eq_mul_right hd ?_
  rw [Int.mul_right_comm, e, Int.mul_right_comm, ← he, Int.mul_right_comm]
theorem dv_low {p q r s : Int} (h : Low p q) (_ : Low r s) (hr : r ≠ 0) (hk : muK p q (mkP s r) (mkQ s r)) : Low (dvP p q r s) (dvQ p q r s) ∧ dvP p q r s * (q * r) = p * s * dvQ p q r s := by
  obtain ⟨hl, he⟩ := mk_low' s r hr
  obtain ⟨h1, h2⟩ := mu_low h hl hk
  have e1 : dvP p q r s = muP p q (mkP s r) (mkQ s r) := if_neg hr
  have e2 : dvQ p q r s = muQ p q (mkP s r) (mkQ s r) := if_neg hr
  rw [e1, e2]
  refine ⟨h1, ?_⟩
  obtain ⟨N, hN⟩ : ∃ N, muP p q (mkP s r) (mkQ s r) = N := ⟨_, rfl⟩
  obtain ⟨D, hD⟩ : ∃ D, muQ p q (mkP s r) (mkQ s r) = D := ⟨_, rfl⟩
  rw [hN, hD] at h2 ⊢
  have hq : mkQ s r ≠ 0 := by have := hl.1; omega
  refine Int.eq_of_mul_eq_mul_right hq ?_
  calc N * (q * r) * mkQ s r = N * (q * mkQ s r) * r := by ac_rfl
    _ = p * (mkP s r * r) * D := by rw [h2]; ac_rfl
    _ = p * s * D * mkQ s r := by rw [he]; ac_rfl
theorem cmp_low {p q r s x d y f : Int} (hq : 0 < q) (hs : 0 < s) (hd : 0 < d) (hf : 0 < f) (e : p * d = x * q) (e' : r * f = y * s) : cmpI (p * s) (r * q) = cmpI (x * f) (y * d) := by
  rw [← cmpI_mul (a := p * s) (b := r * q) (Int.mul_pos hd hf), ← cmpI_mul (a := x * f) (b := y * d) (Int.mul_pos hq hs)]
  have e1 : p * s * (d * f) = x * f * (q * s) := by
    calc p * s * (d * f) = p * d * (s * f) := by ac_rfl
      _ = x * f * (q * s) := by rw [e]; ac_rfl
  have e2 : r * q * (d * f) = y * d * (q * s) := by
    calc r * q * (d * f) = r * f * (q * d) := by ac_rfl
      _ = y * d * (q * s) := by rw [e']; ac_rfl
  rw [e1, e2]
theorem ediv_abs {a g : Int} (_ : 0 < g) (h : g ∣ a) : (a / g).natAbs ≤ a.natAbs := by
  rw [Int.natAbs_ediv_of_dvd h]; exact Nat.div_le_self _ _
theorem ad_small {p q r s : Int} {k : Nat} (hk : 4 * k * k < 18446744073709551616) (h18 : ∀ x : Int, x.natAbs < 18446744073709551616 → x.natAbs < lim) (_ : 0 < q) (hs0 : 0 < s) (hp : p.natAbs ≤ k) (hq : q.natAbs ≤ k) (hr : r.natAbs ≤ k) (hs : s.natAbs ≤ k) : adK p q r s := by
  obtain ⟨g, a, b, hg, e, ha, hb, _⟩ := gcd_parts q s (by omega)
  have hG : adG q s = g := e
  have qa : q / g = a := by rw [ha, Int.mul_ediv_cancel_left _ (by omega)]
  have sb : s / g = b := by rw [hb, Int.mul_ediv_cancel_left _ (by omega)]
  have ka : a.natAbs ≤ k := by rw [← qa]; exact Nat.le_trans (ediv_abs hg ⟨a, ha⟩) hq
  have kb : b.natAbs ≤ k := by rw [← sb]; exact Nat.le_trans (ediv_abs hg ⟨b, hb⟩) hs
  have m1 : (p * b).natAbs ≤ k * k := by rw [Int.natAbs_mul]; exact Nat.mul_le_mul hp kb
  have m2 : (r * a).natAbs ≤ k * k := by rw [Int.natAbs_mul]; exact Nat.mul_le_mul hr ka
  have m3 : (a * s).natAbs ≤ k * k := by rw [Int.natAbs_mul]; exact Nat.mul_le_mul ka hs
  have e4 : 4 * k * k = 4 * (k * k) := Nat.mul_assoc _ _ _
  unfold adK adN adD
  rw [hG, qa, sb]
  exact ⟨h18 _ (by omega), h18 _ (by omega), h18 _ (by omega), h18 _ (by omega)⟩
theorem ad_bound {p q r s : Int} {k : Nat} (hk : adK p q r s) (_ : 0 < q) (hs0 : 0 < s) (hp : p.natAbs ≤ k) (hq : q.natAbs ≤ k) (hr : r.natAbs ≤ k) (hs : s.natAbs ≤ k) : (adP p q r s).natAbs ≤ 2 * (k * k) ∧ (adQ p q r s).natAbs ≤ k * k := by
  obtain ⟨g, a, b, hg, e, ha, hb, _⟩ := gcd_parts q s (by omega)
  have hG : adG q s = g := e
  have qa : q / g = a := by rw [ha, Int.mul_ediv_cancel_left _ (by omega)]
  have sb : s / g = b := by rw [hb, Int.mul_ediv_cancel_left _ (by omega)]
  have ka : a.natAbs ≤ k := by rw [← qa]; exact Nat.le_trans (ediv_abs hg ⟨a, ha⟩) hq
  have kb : b.natAbs ≤ k := by rw [← sb]; exact Nat.le_trans (ediv_abs hg ⟨b, hb⟩) hs
  have m1 : (p * b).natAbs ≤ k * k := by rw [Int.natAbs_mul]; exact Nat.mul_le_mul hp kb
  have m2 : (r * a).natAbs ≤ k * k := by rw [Int.natAbs_mul]; exact Nat.mul_le_mul hr ka
  have m3 : (a * s).natAbs ≤ k * k := by rw [Int.natAbs_mul]; exact Nat.mul_le_mul ka hs
  have hN : adN p q r s = p * b + r * a := by unfold adN; rw [hG, qa, sb]
  have hD : adD q s = a * s := by unfold adD; rw [hG, qa]
  obtain ⟨h, n', g', h0, he, hn', hg', _⟩ := gcd_parts (p * b + r * a) g (by omega)
  have hH : adH p q r s = h := by unfold adH; rw [hN, hG]; exact he
  have eD : a * s = h * (a * (g' * b)) := by conv => lhs; rw [hb, hg']
                                             ac_rfl
  unfold adP adQ
  rw [if_pos hk, if_pos hk, hH, hN, hD]
  exact ⟨Nat.le_trans (ediv_abs h0 ⟨n', hn'⟩) (by omega), Nat.le_trans (ediv_abs h0 ⟨_, eD⟩) m3⟩
theorem mk_bound {x d : Int} (hd : 0 < d) : (mkP x d).natAbs ≤ x.natAbs ∧ (mkQ x d).natAbs ≤ d.natAbs := by
  obtain ⟨g, a, b, hg, e, ha, hb, _⟩ := gcd_parts x d (by omega)
  have hD : mkD x d = g := by unfold mkD; rw [if_neg (by omega), e]
  unfold mkP mkQ
  rw [if_neg (by omega), if_neg (by omega), hD]
  exact ⟨ediv_abs hg ⟨a, ha⟩, ediv_abs hg ⟨b, hb⟩⟩
/-- The half of a sum of small fractions, in lowest terms. -/
theorem md_low {p q r s : Int} (h18 : ∀ x : Int, x.natAbs < 18446744073709551616 → x.natAbs < lim) (h : Low p q) (h' : Low r s) (hp : p.natAbs ≤ 60000) (hq : q.natAbs ≤ 60000) (hr : r.natAbs ≤ 60000) (hs : s.natAbs ≤ 60000) : mdC p q r s = 0 ∧ mdP p q r s = mkP (p * s + r * q) (2 * (q * s)) ∧ mdQ p q r s = mkQ (p * s + r * q) (2 * (q * s)) := by
  have hK := ad_small (k := 60000) (by decide) h18 h.1 h'.1 hp hq hr hs
  obtain ⟨h1, h2⟩ := ad_low h h' hK
  obtain ⟨b1, b2⟩ := ad_bound hK h.1 h'.1 hp hq hr hs
  obtain ⟨P, hP⟩ : ∃ P, adP p q r s = P := ⟨_, rfl⟩
  obtain ⟨Q, hQ⟩ : ∃ Q, adQ p q r s = Q := ⟨_, rfl⟩
  have hC : adC p q r s = 0 := if_pos hK
  rw [hP, hQ] at h1 h2
  rw [hP] at b1
  rw [hQ] at b2
  have l2 : Low 2 1 := low_one 2
  have m1 : mkP 1 2 = 1 ∧ mkQ 1 2 = 2 := ⟨rfl, rfl⟩
  have hk : muK P Q (mkP 1 2) (mkQ 1 2) := by
    rw [m1.1, m1.2]
    unfold muK muN muD
    have g1 : (0 : Int) < muA P 2 := by unfold muA; have := Nat.gcd_pos_of_pos_right P.natAbs (show 0 < (2 : Int).natAbs by decide); omega
    have g2 : (0 : Int) < muA 1 Q := by unfold muA; have := Nat.gcd_pos_of_pos_left Q.natAbs (show 0 < (1 : Int).natAbs by decide); omega
    have d1 : (P / muA P 2).natAbs ≤ P.natAbs := ediv_abs g1 (Int.ofNat_dvd_left.2 (Nat.gcd_dvd_left _ _))
    have d2 : (1 / muA 1 Q : Int).natAbs ≤ (1 : Int).natAbs := ediv_abs g2 (Int.ofNat_dvd_left.2 (Nat.gcd_dvd_left _ _))
    have d3 : (Q / muA 1 Q).natAbs ≤ Q.natAbs := ediv_abs g2 (Int.ofNat_dvd_left.2 (Nat.gcd_dvd_right _ _))
    have d4 : (2 / muA P 2 : Int).natAbs ≤ (2 : Int).natAbs := ediv_abs g1 (Int.ofNat_dvd_left.2 (Nat.gcd_dvd_right _ _))
    have t1 : (P / muA P 2 * (1 / muA 1 Q)).natAbs ≤ P.natAbs * 1 := by rw [Int.natAbs_mul]; exact Nat.mul_le_mul d1 d2
    have t2 : (Q / muA 1 Q * (2 / muA P 2)).natAbs ≤ Q.natAbs * 2 := by rw [Int.natAbs_mul]; exact Nat.mul_le_mul d3 d4
    exact ⟨h18 _ (by omega), h18 _ (by omega)⟩
  obtain ⟨h3, h4⟩ := dv_low h1 l2 (by decide) hk
  have e1 : mdP p q r s = dvP P Q 2 1 := by unfold mdP; rw [if_pos hC, hP, hQ]
  have e2 : mdQ p q r s = dvQ P Q 2 1 := by unfold mdQ; rw [if_pos hC, hP, hQ]
  have e3 : mdC p q r s = 0 := by
    unfold mdC
    rw [if_pos hC, hP, hQ]
    unfold dvC
    rw [if_neg (by decide)]
    exact if_pos hk
  rw [e1, e2]
  refine ⟨e3, low_mk' h3 ?_ ?_⟩
  · have := Int.mul_pos h.1 h'.1; omega
  · have hQ0 : Q ≠ 0 := by have := h1.1; omega
    refine Int.eq_of_mul_eq_mul_right hQ0 ?_
    obtain ⟨N, hN⟩ : ∃ z, dvP P Q 2 1 = z := ⟨_, rfl⟩
    obtain ⟨D, hD⟩ : ∃ z, dvQ P Q 2 1 = z := ⟨_, rfl⟩
    rw [hN, hD] at h4
    rw [hN, hD]
    clear hN hD h3 hk hC hK
    calc N * (2 * (q * s)) * Q = N * (Q * 2) * (q * s) := by ac_rfl
      _ = P * (q * s) * D := by rw [h4, Int.mul_one]; exact Int.mul_right_comm _ _ _
      _ = (p * s + r * q) * D * Q := by rw [h2]; exact Int.mul_right_comm _ _ _
theorem cmpI_mul' {a b c : Int} (hc : 0 < c) : cmpI (c * a) (c * b) = cmpI a b := by rw [Int.mul_comm c a, Int.mul_comm c b]; exact cmpI_mul hc
theorem mid_left {x y d f : Int} (hd : 0 < d) : cmpI (x * (2 * (d * f))) ((x * f + y * d) * d) = cmpI (x * f) (y * d) := by
  have e1 : x * (2 * (d * f)) = d * (2 * (x * f)) := by ac_rfl
  have e2 : (x * f + y * d) * d = d * (x * f + y * d) := Int.mul_comm _ _
  rw [e1, e2, cmpI_mul' hd]
  unfold cmpI
  generalize x * f = a
  generalize y * d = b
  split <;> split <;> (try split) <;> (try split) <;> omega
theorem mid_right {x y d f : Int} (hf : 0 < f) : cmpI ((x * f + y * d) * f) (y * (2 * (d * f))) = cmpI (x * f) (y * d) := by
  have e1 : y * (2 * (d * f)) = f * (2 * (y * d)) := by rw [Int.mul_left_comm, ← Int.mul_assoc y, Int.mul_comm (y * d), Int.mul_left_comm]
  have e2 : (x * f + y * d) * f = f * (x * f + y * d) := Int.mul_comm _ _
  rw [e1, e2, cmpI_mul' hf]
  unfold cmpI
  generalize x * f = a
  generalize y * d = b
  split <;> split <;> (try split) <;> (try split) <;> omega
/-- The rounding to the nearest. -/
theorem near_bounds {p q : Int} (hq : 0 < q) : 2 * (-((q - 2 * p) / (2 * q))) * q - 2 * p < q ∧ -q ≤ 2 * (-((q - 2 * p) / (2 * q))) * q - 2 * p := by
  obtain ⟨t, ht⟩ : ∃ t, (q - 2 * p) / (2 * q) = t := ⟨_, rfl⟩
  have h1 : t * (2 * q) ≤ q - 2 * p := by rw [← ht]; exact Int.ediv_mul_le _ (by omega)
  have h2 : q - 2 * p < (t + 1) * (2 * q) := by rw [← ht]; exact Int.lt_ediv_add_one_mul_self _ (by omega)
  rw [ht]
  have e1 : t * (2 * q) = 2 * (t * q) := Int.mul_left_comm _ _ _
  have e2 : (t + 1) * (2 * q) = 2 * (t * q) + 2 * q := by rw [Int.add_mul, e1, Int.one_mul]
  have e3 : 2 * -t * q = -(2 * (t * q)) := by rw [Int.mul_neg, Int.neg_mul, Int.mul_assoc]
  rw [e3]
  omega
theorem near_scale {a b g : Int} (hg : 0 < g) : ((g * b) - 2 * (g * a)) / (2 * (g * b)) = (b - 2 * a) / (2 * b) := by
  have e1 : g * b - 2 * (g * a) = g * (b - 2 * a) := by rw [Int.mul_sub, Int.mul_left_comm]
  have e2 : 2 * (g * b) = g * (2 * b) := Int.mul_left_comm _ _ _
  rw [e1, e2, Int.mul_ediv_mul_of_pos _ _ hg]
theorem near_mk {x d : Int} (hd : 0 < d) : (mkQ x d - 2 * mkP x d) / (2 * mkQ x d) = (d - 2 * x) / (2 * d) := by
  obtain ⟨g, a, b, hg, e, ha, hb, _⟩ := gcd_parts x d (by omega)
  have hD : mkD x d = g := by unfold mkD; rw [if_neg (by omega), e]
  have hP : mkP x d = a := by unfold mkP; rw [if_neg (by omega), hD, ha, Int.mul_ediv_cancel_left _ (by omega)]
  have hQ : mkQ x d = b := by unfold mkQ; rw [if_neg (by omega), hD, hb, Int.mul_ediv_cancel_left _ (by omega)]
  rw [hP, hQ, ha, hb, near_scale hg]
end Go.Proofs.Ytfmccalkfagafaa
