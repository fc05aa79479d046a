/- Decimal texts: of a number, their value, four digits at a time. No import of the program. -/
import Derived.Test.YtpcliampffeknaaMNum
namespace Go.Proofs.Ytpcliampffeknaa

theorem snoc_ind {α : Type} {P : List α → Prop} (nil : P []) (snoc : ∀ l c, P l → P (l ++ [c])) (l : List α) : P l := by
  rw [← List.reverse_reverse l]
  induction l.reverse with
  | nil => exact nil
  | cons c r ih => rw [List.reverse_cons]; exact snoc _ _ ih
def dig8 (d : Nat) : UInt8 := UInt8.ofNat (48 + d)
def dec (n : Nat) : List UInt8 := if _h : n < 10 then [dig8 n] else dec (n / 10) ++ [dig8 (n % 10)]
termination_by n
decreasing_by omega
theorem dec_lt {n : Nat} (h : n < 10) : dec n = [dig8 n] := by rw [dec]; simp [h]
theorem dec_ge {n : Nat} (h : 10 ≤ n) : dec n = dec (n / 10) ++ [dig8 (n % 10)] := by rw [dec]; simp [show ¬ n < 10 by omega]
theorem dig8_nat {d : Nat} (h : d < 10) : (dig8 d).toNat = 48 + d := by
  rw [dig8, UInt8.toNat_ofNat']
  omega
theorem dig8_of {c : UInt8} (h1 : 48 ≤ c.toNat) (h2 : c.toNat ≤ 57) : dig8 (c.toNat - 48) = c := by
  rw [dig8, show 48 + (c.toNat - 48) = c.toNat by omega]
  simp
/-- The value of digits. -/
def dval (l : List UInt8) : Nat := l.foldl (fun v c => 10 * v + (c.toNat - 48)) 0
def IsDig (l : List UInt8) : Prop := ∀ c ∈ l, 48 ≤ c.toNat ∧ c.toNat ≤ 57
theorem dval_snoc (l : List UInt8) (c : UInt8) : dval (l ++ [c]) = 10 * dval l + (c.toNat - 48) := by simp [dval]
theorem dval_nil : dval [] = 0 := rfl
theorem dval_append (a b : List UInt8) : dval (a ++ b) = dval a * 10 ^ b.length + dval b := by
  induction b using snoc_ind with
  | nil => simp [dval_nil]
  | snoc b c ih =>
    rw [← List.append_assoc, dval_snoc, dval_snoc, ih, List.length_append, List.length_singleton, Nat.pow_succ, ← Nat.mul_assoc]
    omega
theorem isDig_append {a b : List UInt8} : IsDig (a ++ b) ↔ IsDig a ∧ IsDig b := by
  constructor
  · intro h; exact ⟨fun d hd => h d (List.mem_append_left _ hd), fun d hd => h d (List.mem_append_right _ hd)⟩
  · rintro ⟨h1, h2⟩ d hd
    rcases List.mem_append.1 hd with h | h
    · exact h1 d h
    · exact h2 d h
theorem dval_lt {l : List UInt8} (h : IsDig l) : dval l < 10 ^ l.length := by
  induction l using snoc_ind with
  | nil => simp [dval_nil]
  | snoc l c ih =>
    obtain ⟨h1, h2⟩ := isDig_append.1 h
    have := ih h1
    have hc := h2 c (List.mem_singleton.2 rfl)
    rw [dval_snoc, List.length_append, List.length_singleton, Nat.pow_succ]
    omega
theorem isDig_dec (n : Nat) : IsDig (dec n) := by
  induction n using Nat.strongRecOn with
  | _ n ih =>
    by_cases h : n < 10
    · rw [dec_lt h]
      intro c hc
      rw [List.mem_singleton.1 hc, dig8_nat h]
      omega
    · rw [dec_ge (by omega), isDig_append]
      refine ⟨ih (n / 10) (by omega), fun c hc => ?_⟩
      rw [List.mem_singleton.1 hc, dig8_nat (by omega)]
      omega
theorem dval_dec (n : Nat) : dval (dec n) = n := by
  induction n using Nat.strongRecOn with
  | _ n ih =>
    by_cases h : n < 10
    · rw [dec_lt h, show [dig8 n] = [] ++ [dig8 n] from rfl, dval_snoc, dig8_nat h, dval_nil]
      omega
    · rw [dec_ge (by omega), dval_snoc, ih (n / 10) (by omega), dig8_nat (by omega)]
      omega
theorem dec_ne (n : Nat) : dec n ≠ [] := by
  by_cases h : n < 10
  · rw [dec_lt h]; simp
  · rw [dec_ge (by omega)]; simp
/-- No zero in front but of zero itself. -/
theorem dec_head (n : Nat) (h : 0 < n) : (dec n).getD 0 0 ≠ 48 := by
  induction n using Nat.strongRecOn with
  | _ n ih =>
    by_cases h10 : n < 10
    · rw [dec_lt h10]
      intro e
      have := congrArg UInt8.toNat e
      rw [show [dig8 n].getD 0 0 = dig8 n from rfl, dig8_nat h10] at this
      simp at this
      omega
    · have := ih (n / 10) (by omega) (by omega)
      rw [dec_ge (by omega)]
      rcases hd : dec (n / 10) with _ | ⟨c, r⟩
      · exact absurd hd (dec_ne _)
      · rw [hd] at this
        simpa using this
/-- Digits without a zero in front are the text of their value. -/
theorem dec_dval {l : List UInt8} (h : IsDig l) (hne : l ≠ []) (h0 : l.length = 1 ∨ l.getD 0 0 ≠ 48) : dec (dval l) = l := by
  induction l using snoc_ind with
  | nil => exact absurd rfl hne
  | snoc l c ih =>
    obtain ⟨h1, h2⟩ := isDig_append.1 h
    have hc := h2 c (List.mem_singleton.2 rfl)
    rw [dval_snoc]
    rcases l with _ | ⟨x, r⟩
    · rw [dval_nil, dec_lt (by omega), Nat.mul_zero, Nat.zero_add, dig8_of hc.1 hc.2]
      rfl
    · have hx : (x :: r).getD 0 0 ≠ 48 := by
        rcases h0 with h0 | h0
        · simp at h0
        · simpa using h0
      have hi := ih h1 (by simp) (.inr hx)
      have hpos : 0 < dval (x :: r) := by
        rcases Nat.eq_zero_or_pos (dval (x :: r)) with e | e
        · rw [e, dec_lt (by omega)] at hi
          rw [← hi] at hx
          exact absurd rfl hx
        · exact e
      rw [dec_ge (by omega), show (10 * dval (x :: r) + (c.toNat - 48)) / 10 = dval (x :: r) by omega, show (10 * dval (x :: r) + (c.toNat - 48)) % 10 = c.toNat - 48 by omega, hi, dig8_of hc.1 hc.2]
/-- Four digits. -/
def pad4 (r : Nat) : List UInt8 := [dig8 (r / 1000), dig8 (r / 100 % 10), dig8 (r / 10 % 10), dig8 (r % 10)]
theorem dec_step {q r : Nat} (hq : 0 < q) (hr : r < 10000) : dec (r + 10000 * q) = dec q ++ pad4 r := by
  rw [dec_ge (by omega), dec_ge (n := (r + 10000 * q) / 10) (by omega), dec_ge (n := (r + 10000 * q) / 10 / 10) (by omega), dec_ge (n := (r + 10000 * q) / 10 / 10 / 10) (by omega),
    show (r + 10000 * q) / 10 / 10 / 10 / 10 = q by omega, show (r + 10000 * q) / 10 / 10 / 10 % 10 = r / 1000 by omega, show (r + 10000 * q) / 10 / 10 % 10 = r / 100 % 10 by omega, show (r + 10000 * q) / 10 % 10 = r / 10 % 10 by omega, show (r + 10000 * q) % 10 = r % 10 by omega]
  simp [pad4]
/-- A text of at most four digits, zeros laid in front. -/
theorem pad4_dec {r : Nat} (hr : r < 10000) : List.replicate (4 - (dec r).length) (dig8 0) ++ dec r = pad4 r := by
  have d1 : dig8 0 = 48 := rfl
  by_cases h1 : r < 10
  · rw [dec_lt h1, pad4, show r / 1000 = 0 by omega, show r / 100 % 10 = 0 by omega, show r / 10 % 10 = 0 by omega, show r % 10 = r by omega]
    rfl
  · by_cases h2 : r < 100
    · rw [dec_ge (by omega), dec_lt (by omega), pad4, show r / 1000 = 0 by omega, show r / 100 % 10 = 0 by omega, show r / 10 % 10 = r / 10 by omega]
      rfl
    · by_cases h3 : r < 1000
      · rw [dec_ge (by omega), dec_ge (n := r / 10) (by omega), dec_lt (n := r / 10 / 10) (by omega), pad4, show r / 1000 = 0 by omega, show r / 100 % 10 = r / 10 / 10 by omega]
        rfl
      · rw [dec_ge (by omega), dec_ge (n := r / 10) (by omega), dec_ge (n := r / 10 / 10) (by omega), dec_lt (n := r / 10 / 10 / 10) (by omega), pad4, show r / 1000 = r / 10 / 10 / 10 by omega, show r / 100 % 10 = r / 10 / 10 % 10 by omega]
        rfl
theorem dec_len {n k : Nat} (hk : 0 < k) : (dec n).length ≤ k ↔ n < 10 ^ k := by
  constructor
  · intro h
    have h1 := dval_lt (isDig_dec n)
    rw [dval_dec] at h1
    exact Nat.lt_of_lt_of_le h1 (Nat.pow_le_pow_right (by decide) h)
  · induction k generalizing n with
    | zero => omega
    | succ k ih =>
      intro h
      by_cases h10 : n < 10
      · rw [dec_lt h10]; simp
      · rw [dec_ge (by omega), List.length_append, List.length_singleton]
        have hk0 : 0 < k := by
          rcases Nat.eq_zero_or_pos k with e | e
          · subst e; simp at h; omega
          · exact e
        have := ih (n := n / 10) hk0 (by rw [Nat.pow_succ] at h; omega)
        omega
/-- The text of an integer. -/
def decI (x : Int) : List UInt8 := if x < 0 then 45 :: dec x.natAbs else dec x.natAbs
theorem decI_inj {x y : Int} (h : decI x = decI y) : x = y := by
  have hm : ∀ n, (dec n).getD 0 0 ≠ 45 := by
    intro n e
    rcases hd : dec n with _ | ⟨c, r⟩
    · exact absurd hd (dec_ne n)
    · have := isDig_dec n c (by rw [hd]; simp)
      rw [hd] at e
      simp only [List.getD_cons_zero] at e
      subst e
      exact absurd this.1 (by decide)
  have hn : ∀ a b, dec a = dec b → a = b := fun a b e => by rw [← dval_dec a, e, dval_dec]
  unfold decI at h
  split at h <;> split at h
  · have := hn _ _ (List.cons.inj h).2; omega
  · exact absurd (by rw [← h]; rfl) (hm y.natAbs)
  · exact absurd (by rw [h]; rfl) (hm x.natAbs)
  · have := hn _ _ h; omega
end Go.Proofs.Ytpcliampffeknaa
