/- Lowest terms of fractions. No walk. -/
import Derived.Test.YtfmccalkfagafaaZPH
namespace Go.Proofs.Ytfmccalkfagafaa
/-- A fraction in lowest terms. -/
def Low (p q : Int) : Prop := 0 < q ∧ Nat.Coprime p.natAbs q.natAbs
theorem gcd_parts (a b : Int) (h : b ≠ 0) : ∃ g a' b' : Int, 0 < g ∧ ((Nat.gcd a.natAbs b.natAbs : Nat) : Int) = g ∧ a = g * a' ∧ b = g * b' ∧ Nat.Coprime a'.natAbs b'.natAbs := by
  have hg : 0 < Nat.gcd a.natAbs b.natAbs := Nat.gcd_pos_of_pos_right _ (by omega)
  obtain ⟨a', ha⟩ : ((Nat.gcd a.natAbs b.natAbs : Nat) : Int) ∣ a := Int.ofNat_dvd_left.2 (Nat.gcd_dvd_left _ _)
  obtain ⟨b', hb⟩ : ((Nat.gcd a.natAbs b.natAbs : Nat) : Int) ∣ b := Int.ofNat_dvd_left.2 (Nat.gcd_dvd_right _ _)
  refine ⟨_, a', b', by omega, rfl, ha, hb, ?_⟩
  have h1 : a.natAbs / Nat.gcd a.natAbs b.natAbs = a'.natAbs := by
    conv => lhs; lhs; rw [ha]
    rw [Int.natAbs_mul, Int.natAbs_natCast, Nat.mul_div_cancel_left _ hg]
  have h2 : b.natAbs / Nat.gcd a.natAbs b.natAbs = b'.natAbs := by
    conv => lhs; lhs; rw [hb]
    rw [Int.natAbs_mul, Int.natAbs_natCast, Nat.mul_div_cancel_left _ hg]
  have := Nat.coprime_div_gcd_div_gcd hg
  rwa [h1, h2] at this
theorem mk_low (x d : Int) (hd : 0 < d) : Low (mkP x d) (mkQ x d) ∧ mkP x d * d = x * mkQ x d := by
  obtain ⟨g, a, b, hg, e, ha, hb, hc⟩ := gcd_parts x d (by omega)
  have hD : mkD x d = g := by unfold mkD; rw [if_neg (by omega), e]
  have hP : mkP x d = a := by unfold mkP; rw [if_neg (by omega), hD, ha, Int.mul_ediv_cancel_left _ (by omega)]
  have hQ : mkQ x d = b := by unfold mkQ; rw [if_neg (by omega), hD, hb, Int.mul_ediv_cancel_left _ (by omega)]
  rw [hP, hQ]
  refine ⟨⟨?_, hc⟩, ?_⟩
  · exact Int.pos_of_mul_pos_right (by rw [← hb]; exact hd) hg
  · rw [ha, hb, Int.mul_left_comm, Int.mul_assoc]
theorem le_low {p q r s x d y f : Int} (hq : 0 < q) (hs : 0 < s) (hd : 0 < d) (hf : 0 < f) (e : p * d = x * q) (e' : r * f = y * s) : p * s ≤ r * q ↔ x * f ≤ y * d := by
  have e1 : p * s * (d * f) = x * f * (q * s) := by
    calc p * s * (d * f) = p * d * (s * f) := by ac_rfl
      _ = x * f * (q * s) := by rw [e]; ac_rfl
  have e2 : r * q * (d * f) = y * d * (q * s) := by
    calc r * q * (d * f) = r * f * (q * d) := by ac_rfl
      _ = y * d * (q * s) := by rw [e']; ac_rfl
  have h1 : p * s ≤ r * q ↔ p * s * (d * f) ≤ r * q * (d * f) := ⟨fun g => Int.mul_le_mul_of_nonneg_right g (Int.le_of_lt (Int.mul_pos hd hf)), fun g => Int.le_of_mul_le_mul_right g (Int.mul_pos hd hf)⟩
  have h2 : x * f ≤ y * d ↔ x * f * (q * s) ≤ y * d * (q * s) := ⟨fun g => Int.mul_le_mul_of_nonneg_right g (Int.le_of_lt (Int.mul_pos hq hs)), fun g => Int.le_of_mul_le_mul_right g (Int.mul_pos hq hs)⟩
  rw [h1, h2, e1, e2]
end Go.Proofs.Ytfmccalkfagafaa
