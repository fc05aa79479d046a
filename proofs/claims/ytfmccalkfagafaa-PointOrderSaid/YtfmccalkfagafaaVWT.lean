/- Texts of fractions are one to one; the order of the reference's points. No walk. -/
import Derived.Test.YtfmccalkfagafaaVWE
import Derived.Test.YtfmccalkfagafaaVX
namespace Go.Proofs.Ytfmccalkfagafaa
theorem no47 (x : Int) : ∀ b ∈ decI x, b ≠ 47 := by
  have hd : ∀ n, ∀ b ∈ dec n, b ≠ 47 := by
    intro n b hb e
    have := isDig_dec n b hb
    subst e
    exact absurd this (by decide)
  intro b hb e
  unfold decI at hb
  split at hb
  · rcases List.mem_cons.1 hb with h | h
    · subst h; exact absurd e (by decide)
    · exact hd _ _ h e
  · exact hd _ _ hb e
theorem split47 : ∀ (a b r s : List UInt8), (∀ x ∈ a, x ≠ 47) → (∀ x ∈ b, x ≠ 47) → a ++ 47 :: r = b ++ 47 :: s → a = b ∧ r = s
  | [], [], r, s, _, _, h => by simp at h; exact ⟨rfl, h⟩
  | [], y :: b, r, s, _, hb, h => by
    simp only [List.nil_append, List.cons_append] at h
    injection h with h1 _
    exact absurd h1.symm (hb y (List.mem_cons_self ..))
  | x :: a, [], r, s, ha, _, h => by
    simp only [List.nil_append, List.cons_append] at h
    injection h with h1 _
    exact absurd h1 (ha x (List.mem_cons_self ..))
  | x :: a, y :: b, r, s, ha, hb, h => by
    simp only [List.cons_append] at h
    injection h with h1 h2
    obtain ⟨e1, e2⟩ := split47 a b r s (fun z hz => ha z (List.mem_cons_of_mem _ hz)) (fun z hz => hb z (List.mem_cons_of_mem _ hz)) h2
    exact ⟨by rw [h1, e1], e2⟩
theorem fracT_inj {p q p' q' : Int} (h : fracT p q = fracT p' q') : p = p' ∧ q = q' := by
  unfold fracT at h
  by_cases h1 : q = 1
  · by_cases h2 : q' = 1
    · rw [if_pos h1, if_pos h2] at h
      exact ⟨decI_inj h, by rw [h1, h2]⟩
    · rw [if_pos h1, if_neg h2] at h
      exact absurd rfl (no47 p 47 (by rw [h]; simp))
  · by_cases h2 : q' = 1
    · rw [if_neg h1, if_pos h2] at h
      exact absurd rfl (no47 p' 47 (by rw [← h]; simp))
    · rw [if_neg h1, if_neg h2] at h
      obtain ⟨e1, e2⟩ := split47 _ _ _ _ (no47 p) (no47 p') h
      exact ⟨decI_inj e1, decI_inj e2⟩
theorem decI_len9 {x : Int} (h : x.natAbs < 1000000000) : (decI x).length ≤ 10 := by
  have h1 : (dec x.natAbs).length ≤ 9 := (dec_len (by decide)).2 (by simpa using h)
  unfold decI
  split
  · simp; omega
  · omega
theorem fracT_len {p q : Int} (hp : p.natAbs < 1000000000) (hq : q.natAbs < 1000000000) : (fracT p q).length ≤ 1000 := by
  have h1 := decI_len9 hp
  have h2 := decI_len9 hq
  unfold fracT
  split
  · omega
  · simp; omega
theorem cmpI_swap (a b : Int) : cmpI b a = -cmpI a b := by unfold cmpI; split <;> split <;> (try split) <;> omega
theorem cmpI_zero_iff {a b : Int} : cmpI a b = 0 ↔ a = b := by
  rcases cmpI_cases a b with ⟨h, e⟩ | ⟨h, e⟩ | ⟨h, e⟩ <;> rw [e] <;> constructor <;> intro g <;> (first | omega | (exact absurd g (by decide)))
theorem cmpI_le_iff {a b : Int} : cmpI a b ≤ 0 ↔ a ≤ b := by
  rcases cmpI_cases a b with ⟨h, e⟩ | ⟨h, e⟩ | ⟨h, e⟩ <;> rw [e] <;> constructor <;> intro g <;> (first | omega | (exact absurd g (by decide)))
theorem rc_swap (X Y D X' Y' D' : Int) : rcV X' Y' D' X Y D = -rcV X Y D X' Y' D' := by
  unfold rcV
  rw [cmpI_swap (X * D') (X' * D), cmpI_swap (Y * D') (Y' * D)]
  by_cases h : cmpI (X * D') (X' * D) = 0
  · rw [if_pos h, if_pos (by rw [h]; rfl)]
  · rw [if_neg h, if_neg (by omega)]
theorem rc_zero {X Y D X' Y' D' : Int} : rcV X Y D X' Y' D' = 0 ↔ X * D' = X' * D ∧ Y * D' = Y' * D := by
  unfold rcV
  by_cases h : cmpI (X * D') (X' * D) = 0
  · rw [if_pos h, cmpI_zero_iff]
    exact ⟨fun g => ⟨cmpI_zero_iff.1 h, g⟩, fun g => g.2⟩
  · rw [if_neg h]
    exact ⟨fun g => absurd g h, fun g => cmpI_zero_iff.2 g.1⟩
/-- The order is 0 exactly for equal fractions. -/
theorem rc_same {X Y D X' Y' D' : Int} (hD : 0 < D) (hD' : 0 < D') : rcV X Y D X' Y' D' = 0 ↔ (mkP X D = mkP X' D' ∧ mkQ X D = mkQ X' D') ∧ mkP Y D = mkP Y' D' ∧ mkQ Y D = mkQ Y' D' := by
  rw [rc_zero]
  have key : ∀ x y : Int, x * D' = y * D ↔ mkP x D = mkP y D' ∧ mkQ x D = mkQ y D' := by
    intro x y
    obtain ⟨l1, e1⟩ := mk_low x D hD
    obtain ⟨l2, e2⟩ := mk_low y D' hD'
    constructor
    · intro h
      refine low_mk l1 hD' ?_
      refine Int.eq_of_mul_eq_mul_right (show D ≠ 0 by omega) ?_
      rw [Int.mul_right_comm, e1, Int.mul_right_comm, h, Int.mul_right_comm]
    · rintro ⟨h1, h2⟩
      rw [h1, h2] at e1
      have hq : mkQ y D' ≠ 0 := by have := l2.1; omega
      refine Int.eq_of_mul_eq_mul_right hq ?_
      rw [Int.mul_right_comm, ← e1, Int.mul_right_comm, e2, Int.mul_right_comm]
  rw [key X X', key Y Y']
theorem rc_le {X Y D X' Y' D' : Int} : rcV X Y D X' Y' D' ≤ 0 ↔ X * D' < X' * D ∨ (X * D' = X' * D ∧ Y * D' ≤ Y' * D) := by
  unfold rcV
  rcases cmpI_cases (X * D') (X' * D) with ⟨h, e⟩ | ⟨h, e⟩ | ⟨h, e⟩
  · rw [e, if_neg (by decide)]; exact ⟨fun _ => .inl h, fun _ => by decide⟩
  · rw [e, if_pos rfl, cmpI_le_iff]; exact ⟨fun g => .inr ⟨h, g⟩, fun g => g.elim (fun g => by omega) (fun g => g.2)⟩
  · rw [e, if_neg (by decide)]; exact ⟨fun g => absurd g (by decide), fun g => g.elim (fun g => by omega) (fun g => by omega)⟩
theorem fr_lt_le {a b c d e f : Int} (hb : 0 < b) (hd : 0 < d) (hf : 0 < f) (h1 : a * d < c * b) (h2 : c * f ≤ e * d) : a * f < e * b := by
  refine Int.lt_of_mul_lt_mul_right (a := d) ?_ (by omega)
  have i1 : a * d * f < c * b * f := Int.mul_lt_mul_of_pos_right h1 hf
  have i2 : c * f * b ≤ e * d * b := Int.mul_le_mul_of_nonneg_right h2 (by omega)
  have j1 : a * f * d = a * d * f := Int.mul_right_comm _ _ _
  have j2 : c * b * f = c * f * b := Int.mul_right_comm _ _ _
  have j3 : e * b * d = e * d * b := Int.mul_right_comm _ _ _
  omega
theorem fr_le_lt {a b c d e f : Int} (hb : 0 < b) (hd : 0 < d) (hf : 0 < f) (h1 : a * d ≤ c * b) (h2 : c * f < e * d) : a * f < e * b := by
  refine Int.lt_of_mul_lt_mul_right (a := d) ?_ (by omega)
  have i1 : a * d * f ≤ c * b * f := Int.mul_le_mul_of_nonneg_right h1 (by omega)
  have i2 : c * f * b < e * d * b := Int.mul_lt_mul_of_pos_right h2 hb
  have j1 : a * f * d = a * d * f := Int.mul_right_comm _ _ _
  have j2 : c * b * f = c * f * b := Int.mul_right_comm _ _ _
  have j3 : e * b * d = e * d * b := Int.mul_right_comm _ _ _
  omega
theorem fr_le_le {a b c d e f : Int} (hb : 0 < b) (hd : 0 < d) (hf : 0 < f) (h1 : a * d ≤ c * b) (h2 : c * f ≤ e * d) : a * f ≤ e * b := by
  refine Int.le_of_mul_le_mul_right (show a * f * d ≤ e * b * d from ?_) hd
  have i1 : a * d * f ≤ c * b * f := Int.mul_le_mul_of_nonneg_right h1 (by omega)
  have i2 : c * f * b ≤ e * d * b := Int.mul_le_mul_of_nonneg_right h2 (by omega)
  have j1 : a * f * d = a * d * f := Int.mul_right_comm _ _ _
  have j2 : c * b * f = c * f * b := Int.mul_right_comm _ _ _
  have j3 : e * b * d = e * d * b := Int.mul_right_comm _ _ _
  omega
theorem rc_trans {X Y D X' Y' D' X'' Y'' D'' : Int} (hD : 0 < D) (hD' : 0 < D') (hD'' : 0 < D'') (h1 : rcV X Y D X' Y' D' ≤ 0) (h2 : rcV X' Y' D' X'' Y'' D'' ≤ 0) : rcV X Y D X'' Y'' D'' ≤ 0 := by
  rw [rc_le] at h1 h2 ⊢
  rcases h1 with a | ⟨a1, a2⟩ <;> rcases h2 with b | ⟨b1, b2⟩
  · exact .inl (fr_lt_le hD hD' hD'' a (by omega))
  · exact .inl (fr_lt_le hD hD' hD'' a (by omega))
  · exact .inl (fr_le_lt hD hD' hD'' (by omega) b)
  · refine .inr ⟨?_, fr_le_le hD hD' hD'' a2 b2⟩
    have u := fr_le_le hD hD' hD'' (Int.le_of_eq a1) (Int.le_of_eq b1)
    have v := fr_le_le hD'' hD' hD (Int.le_of_eq b1.symm) (Int.le_of_eq a1.symm)
    omega
end Go.Proofs.Ytfmccalkfagafaa
