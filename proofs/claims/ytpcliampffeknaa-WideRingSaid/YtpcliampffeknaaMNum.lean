/- Digits in a base: their value, the digits of a number, sums, differences, products, one digit of a division. No import of the program. -/
namespace Go.Proofs.Ytpcliampffeknaa

def val (B : Nat) : List Nat → Nat
  | [] => 0
  | d :: r => d + B * val B r
def digs (B n : Nat) : List Nat := if _h : n = 0 ∨ B < 2 then [] else n % B :: digs B (n / B)
termination_by n
decreasing_by exact Nat.div_lt_self (by omega) (by omega)
def Dig (B : Nat) (l : List Nat) : Prop := ∀ d ∈ l, d < B

section
variable {B : Nat}
theorem digs_zero : digs B 0 = [] := by rw [digs]; simp
theorem digs_pos (hB : 2 ≤ B) {n : Nat} (h : n ≠ 0) : digs B n = n % B :: digs B (n / B) := by rw [digs]; simp [h, show ¬ B < 2 by omega]
theorem val_digs (hB : 2 ≤ B) (n : Nat) : val B (digs B n) = n := by
  induction n using Nat.strongRecOn with
  | _ n ih =>
    by_cases h : n = 0
    · subst h; rw [digs_zero]; rfl
    · rw [digs_pos hB h, val, ih (n / B) (Nat.div_lt_self (by omega) (by omega))]
      exact Nat.mod_add_div n B
theorem dig_digs (hB : 2 ≤ B) (n : Nat) : Dig B (digs B n) := by
  induction n using Nat.strongRecOn with
  | _ n ih =>
    by_cases h : n = 0
    · subst h; rw [digs_zero]; intro d hd; cases hd
    · rw [digs_pos hB h]
      intro d hd
      rcases List.mem_cons.1 hd with rfl | hd
      · exact Nat.mod_lt _ (by omega)
      · exact ih (n / B) (Nat.div_lt_self (by omega) (by omega)) d hd
theorem digs_nil (hB : 2 ≤ B) {n : Nat} : digs B n = [] ↔ n = 0 := by
  constructor
  · intro h
    have := val_digs hB n
    rw [h] at this
    exact this.symm
  · rintro rfl; exact digs_zero
theorem dig_nil : Dig B [] := fun d hd => by cases hd
theorem dig_cons {d : Nat} {r : List Nat} : Dig B (d :: r) ↔ d < B ∧ Dig B r := by simp [Dig]
theorem dig_append {a b : List Nat} : Dig B (a ++ b) ↔ Dig B a ∧ Dig B b := by
  constructor
  · intro h; exact ⟨fun d hd => h d (List.mem_append_left _ hd), fun d hd => h d (List.mem_append_right _ hd)⟩
  · rintro ⟨h1, h2⟩ d hd
    rcases List.mem_append.1 hd with h | h
    · exact h1 d h
    · exact h2 d h
theorem dig_snoc {a : List Nat} {d : Nat} (h : Dig B a) (hd : d < B) : Dig B (a ++ [d]) := dig_append.2 ⟨h, dig_cons.2 ⟨hd, dig_nil⟩⟩
theorem dig_take {l : List Nat} (h : Dig B l) (i : Nat) : Dig B (l.take i) := fun d hd => h d (List.mem_of_mem_take hd)
theorem dig_drop {l : List Nat} (h : Dig B l) (i : Nat) : Dig B (l.drop i) := fun d hd => h d (List.mem_of_mem_drop hd)
theorem dig_getD (hB : 0 < B) {l : List Nat} (h : Dig B l) (i : Nat) : l.getD i 0 < B := by
  rw [List.getD_eq_getElem?_getD]
  rcases hi : l[i]? with _ | d
  · exact hB
  · exact h d (List.mem_of_getElem? hi)
theorem dig_set {l : List Nat} (h : Dig B l) (i v : Nat) (hv : v < B) : Dig B (l.set i v) := by
  intro d hd
  rcases List.mem_or_eq_of_mem_set hd with h1 | rfl
  · exact h d h1
  · exact hv
theorem dig_zeros (hB : 0 < B) (n : Nat) : Dig B (List.replicate n 0) := fun d hd => by rw [(List.mem_replicate.1 hd).2]; exact hB
theorem val_append (a b : List Nat) : val B (a ++ b) = val B a + B ^ a.length * val B b := by
  induction a with
  | nil => simp [val]
  | cons d a ih =>
    rw [List.cons_append, val, ih, val, List.length_cons, Nat.pow_succ, Nat.mul_add, ← Nat.mul_assoc, Nat.mul_comm B (B ^ a.length)]
    omega
theorem val_one (d : Nat) : val B [d] = d := by simp [val]
theorem val_snoc (a : List Nat) (d : Nat) : val B (a ++ [d]) = val B a + B ^ a.length * d := by
  rw [val_append, val_one]
theorem val_zeros (n : Nat) : val B (List.replicate n 0) = 0 := by
  induction n with
  | zero => rfl
  | succ n ih => rw [List.replicate_succ, val, ih]; rfl
theorem val_take_succ (l : List Nat) (i : Nat) : val B (l.take (i + 1)) = val B (l.take i) + B ^ i * l.getD i 0 := by
  rw [List.getD_eq_getElem?_getD]
  by_cases h : i < l.length
  · rw [List.take_succ_eq_append_getElem h, val_snoc, List.getElem?_eq_getElem h, List.length_take, Nat.min_eq_left (by omega)]
    rfl
  · rw [List.take_of_length_le (by omega), List.take_of_length_le (by omega), List.getElem?_eq_none (by omega)]
    simp
theorem val_lt (_hB : 0 < B) {l : List Nat} (h : Dig B l) : val B l < B ^ l.length := by
  induction l with
  | nil => simp [val]
  | cons d r ih =>
    have h1 := (dig_cons.1 h).1
    have h2 := ih (dig_cons.1 h).2
    rw [val, List.length_cons, Nat.pow_succ]
    have h3 : B * (val B r + 1) ≤ B * B ^ r.length := Nat.mul_le_mul_left B h2
    rw [Nat.mul_add, Nat.mul_one] at h3
    rw [Nat.mul_comm (B ^ r.length) B]
    omega
theorem val_take_add (l : List Nat) (i : Nat) : val B l = val B (l.take i) + B ^ i * val B (l.drop i) := by
  by_cases h : i ≤ l.length
  · have := val_append (B := B) (l.take i) (l.drop i)
    rw [List.take_append_drop, List.length_take, Nat.min_eq_left h] at this
    exact this
  · rw [List.take_of_length_le (by omega), List.drop_of_length_le (by omega)]
    simp [val]
theorem val_drop (l : List Nat) (i : Nat) : val B (l.drop i) = l.getD i 0 + B * val B (l.drop (i + 1)) := by
  rw [List.getD_eq_getElem?_getD]
  by_cases h : i < l.length
  · rw [List.drop_eq_getElem_cons h, val, List.getElem?_eq_getElem h]
    rfl
  · rw [List.drop_of_length_le (by omega), List.drop_of_length_le (by omega), List.getElem?_eq_none (by omega)]
    simp [val]
theorem val_take_all {l : List Nat} {i : Nat} (h : l.length ≤ i) : val B (l.take i) = val B l := by rw [List.take_of_length_le h]
/-- Digits without a zero at the end are those of their value. -/
def Norm (l : List Nat) : Prop := l = [] ∨ l.getD (l.length - 1) 0 ≠ 0
theorem norm_eq (hB : 2 ≤ B) {l : List Nat} (h : Dig B l) (hl : Norm l) : l = digs B (val B l) := by
  induction l with
  | nil => rw [val, digs_zero]
  | cons d r ih =>
    have h1 := (dig_cons.1 h).1
    have h2 := (dig_cons.1 h).2
    have hl := hl.resolve_left (by simp)
    have hr : Norm r := by
      cases r with
      | nil => exact .inl rfl
      | cons x r => exact .inr (by simpa using hl)
    have hi := ih h2 hr
    have hv : val B (d :: r) ≠ 0 := by
      rw [val]
      intro h0
      have hr0 : val B r = 0 := by
        rcases Nat.eq_zero_or_pos (val B r) with e | e
        · exact e
        · have := Nat.mul_pos (show 0 < B by omega) e
          omega
      rw [hr0, digs_zero] at hi
      subst hi
      simp at hl
      omega
    rw [digs_pos hB hv]
    have e1 : val B (d :: r) % B = d := by rw [val, Nat.add_mul_mod_self_left, Nat.mod_eq_of_lt h1]
    have e2 : val B (d :: r) / B = val B r := by rw [val, Nat.add_mul_div_left _ _ (by omega), Nat.div_eq_of_lt h1, Nat.zero_add]
    rw [e1, e2, ← hi]
theorem digs_last (hB : 2 ≤ B) {n : Nat} (h : n ≠ 0) : (digs B n).getD ((digs B n).length - 1) 0 ≠ 0 := by
  induction n using Nat.strongRecOn with
  | _ n ih =>
    rw [digs_pos hB h]
    by_cases h1 : n / B = 0
    · rw [h1, digs_zero]
      have := Nat.mod_add_div n B
      rw [h1] at this
      simp
      omega
    · have := ih (n / B) (Nat.div_lt_self (by omega) (by omega)) h1
      have hne : digs B (n / B) ≠ [] := fun e => h1 ((digs_nil hB).1 e)
      have hp := Nat.pos_of_ne_zero (fun e => hne (List.eq_nil_of_length_eq_zero e))
      rw [List.length_cons, Nat.add_sub_cancel]
      obtain ⟨k, hk⟩ : ∃ k, (digs B (n / B)).length = k + 1 := ⟨_, (Nat.succ_pred_eq_of_pos hp).symm⟩
      rw [hk] at this ⊢
      simpa using this
theorem norm_digs (hB : 2 ≤ B) (n : Nat) : Norm (digs B n) := by
  by_cases h : n = 0
  · subst h; exact .inl digs_zero
  · exact .inr (digs_last hB h)
theorem digs_len_le (hB : 2 ≤ B) {n k : Nat} (h : n < B ^ k) : (digs B n).length ≤ k := by
  induction k generalizing n with
  | zero =>
    obtain rfl : n = 0 := by simpa using h
    rw [digs_zero]; simp
  | succ k ih =>
    by_cases h0 : n = 0
    · subst h0; rw [digs_zero]; simp
    · rw [digs_pos hB h0, List.length_cons]
      have := ih (n := n / B) (Nat.div_lt_of_lt_mul (by rw [Nat.pow_succ, Nat.mul_comm] at h; exact h))
      omega
theorem digs_lt (hB : 2 ≤ B) (n : Nat) : n < B ^ (digs B n).length := by
  have := val_lt (B := B) (by omega) (dig_digs hB n)
  rwa [val_digs hB] at this
theorem digs_ge (hB : 2 ≤ B) {n : Nat} (h : n ≠ 0) : B ^ ((digs B n).length - 1) ≤ n := by
  rcases Nat.lt_or_ge n (B ^ ((digs B n).length - 1)) with h1 | h1
  · have := digs_len_le hB h1
    have hne : digs B n ≠ [] := fun e => h ((digs_nil hB).1 e)
    have := List.length_pos_iff.2 hne
    omega
  · exact h1
theorem digs_len_lt (hB : 2 ≤ B) {a b : Nat} (h : (digs B a).length < (digs B b).length) : a < b := by
  rcases Nat.lt_or_ge a b with h1 | h1
  · exact h1
  · have := digs_len_le hB (n := b) (k := (digs B a).length) (Nat.lt_of_le_of_lt h1 (digs_lt hB a))
    omega
theorem digs_len_mono (hB : 2 ≤ B) {a b : Nat} (h : a ≤ b) : (digs B a).length ≤ (digs B b).length := by
  rcases Nat.lt_or_ge (digs B b).length (digs B a).length with h1 | h1
  · have := digs_len_lt hB h1; omega
  · exact h1
/-- Zeros are taken from the end. -/
theorem digs_of_zeros (hB : 2 ≤ B) {l m : List Nat} (h : Dig B l) (hm : ∃ k, l = m ++ List.replicate k 0) (hn : Norm m) : m = digs B (val B l) := by
  obtain ⟨k, rfl⟩ := hm
  rw [val_append, val_zeros, Nat.mul_zero, Nat.add_zero]
  exact norm_eq hB (dig_append.1 h).1 hn
theorem take_zeros {l : List Nat} {k : Nat} (hk : k < l.length) (h0 : l.getD k 0 = 0) (h : ∃ j, l = l.take (k + 1) ++ List.replicate j 0) : ∃ j, l = l.take k ++ List.replicate j 0 := by
  obtain ⟨j, hj⟩ := h
  refine ⟨j + 1, ?_⟩
  have e : l.take (k + 1) = l.take k ++ [0] := by
    rw [List.take_succ_eq_append_getElem hk]
    rw [List.getD_eq_getElem?_getD, List.getElem?_eq_getElem hk] at h0
    exact congrArg (l.take k ++ [·]) h0
  rw [e, List.append_assoc] at hj
  rw [List.replicate_succ]
  exact hj
theorem norm_take {l : List Nat} {k : Nat} (hk : k ≤ l.length) (h : k = 0 ∨ l.getD (k - 1) 0 ≠ 0) : Norm (l.take k) := by
  rcases h with rfl | h
  · exact .inl (by simp)
  · rcases Nat.eq_zero_or_pos k with rfl | hp
    · exact .inl (by simp)
    · refine .inr ?_
      rw [List.length_take, Nat.min_eq_left hk, List.getD_eq_getElem?_getD, List.getElem?_take, if_pos (by omega), ← List.getD_eq_getElem?_getD]
      exact h
/-- Compared from the top. -/
theorem val_cmp (hB : 0 < B) {a b : List Nat} {i : Nat} (ha : Dig B a) (hd : a.drop (i + 1) = b.drop (i + 1)) (hlt : a.getD i 0 < b.getD i 0) : val B a < val B b := by
  have h1 := val_take_add (B := B) a (i + 1)
  have h2 := val_take_add (B := B) b (i + 1)
  rw [hd] at h1
  rw [val_take_succ] at h1 h2
  have h3 : val B (a.take i) < B ^ i := by
    have := val_lt hB (dig_take ha i)
    rw [List.length_take] at this
    exact Nat.lt_of_lt_of_le this (Nat.pow_le_pow_right hB (Nat.min_le_left _ _))
  have h4 : B ^ i * a.getD i 0 + B ^ i ≤ B ^ i * b.getD i 0 := by
    have := Nat.mul_le_mul_left (B ^ i) (show a.getD i 0 + 1 ≤ b.getD i 0 from hlt)
    rw [Nat.mul_add, Nat.mul_one] at this
    exact this
  omega
theorem val_set {l : List Nat} {j : Nat} (hj : j < l.length) (v : Nat) : val B (l.set j v) + B ^ j * l.getD j 0 = val B l + B ^ j * v := by
  have h1 := val_take_add (B := B) l (j + 1)
  have h2 := val_take_add (B := B) (l.set j v) (j + 1)
  rw [val_take_succ] at h1 h2
  have e1 : (l.set j v).getD j 0 = v := by rw [List.getD_eq_getElem?_getD, List.getElem?_set_self hj]; rfl
  have e2 : (l.set j v).take j = l.take j := List.take_set_of_le (Nat.le_refl _)
  have e3 : (l.set j v).drop (j + 1) = l.drop (j + 1) := List.drop_set_of_lt (by omega)
  rw [e1, e2, e3] at h2
  omega
/-- One step of a sum. -/
theorem plus_step {o : List Nat} {c i X Y x y : Nat} (ho : o.length = i) (h : val B o + B ^ i * c = X + Y) : val B (o ++ [(x + y + c) % B]) + B ^ (i + 1) * ((x + y + c) / B) = (X + B ^ i * x) + (Y + B ^ i * y) := by
  rw [val_snoc, ho, Nat.pow_succ]
  have e : B ^ i * B * ((x + y + c) / B) = B ^ i * (B * ((x + y + c) / B)) := by rw [Nat.mul_assoc]
  have e2 : B ^ i * ((x + y + c) % B) + B ^ i * (B * ((x + y + c) / B)) = B ^ i * x + B ^ i * y + B ^ i * c := by
    rw [← Nat.mul_add, Nat.mod_add_div, Nat.mul_add, Nat.mul_add]
  omega
/-- One step of a difference: what is borrowed is added. -/
theorem minus_step {o : List Nat} {c i X Y x y d c' : Nat} (ho : o.length = i) (h : val B o + Y = X + B ^ i * c') (hd : d + y + c' = x + B * c) : val B (o ++ [d]) + (Y + B ^ i * y) = (X + B ^ i * x) + B ^ (i + 1) * c := by
  rw [val_snoc, ho, Nat.pow_succ]
  have e : B ^ i * B * c = B ^ i * (B * c) := by rw [Nat.mul_assoc]
  have e2 : B ^ i * d + B ^ i * y + B ^ i * c' = B ^ i * x + B ^ i * (B * c) := by
    rw [← Nat.mul_add, ← Nat.mul_add, hd, Nat.mul_add]
  omega
/-- One step of a product's row: the carry moves on. -/
theorem mul_step {o : List Nat} {i k c x y R : Nat} (hj : i + k < o.length) (h : val B o + B ^ (i + k) * c = R) :
    val B (o.set (i + k) ((o.getD (i + k) 0 + x * y + c) % B)) + B ^ (i + k + 1) * ((o.getD (i + k) 0 + x * y + c) / B) = R + B ^ i * x * (B ^ k * y) := by
  have hs := val_set (B := B) hj ((o.getD (i + k) 0 + x * y + c) % B)
  have e1 : B ^ i * x * (B ^ k * y) = B ^ (i + k) * (x * y) := by
    rw [Nat.pow_add]
    simp only [Nat.mul_assoc, Nat.mul_left_comm]
  have e2 : B ^ (i + k + 1) * ((o.getD (i + k) 0 + x * y + c) / B) = B ^ (i + k) * (B * ((o.getD (i + k) 0 + x * y + c) / B)) := by rw [Nat.pow_succ, Nat.mul_assoc]
  have e3 : B ^ (i + k) * ((o.getD (i + k) 0 + x * y + c) % B) + B ^ (i + k) * (B * ((o.getD (i + k) 0 + x * y + c) / B)) = B ^ (i + k) * o.getD (i + k) 0 + B ^ (i + k) * (x * y) + B ^ (i + k) * c := by
    rw [← Nat.mul_add, Nat.mod_add_div, Nat.mul_add, Nat.mul_add]
  omega
theorem carry_lt {o x y c : Nat} (h1 : o < B) (h2 : x < B) (h3 : y < B) (h4 : c < B) : (o + x * y + c) / B < B := by
  obtain ⟨k, rfl⟩ : ∃ k, B = k + 1 := ⟨B - 1, by omega⟩
  have h := Nat.mul_le_mul (show x ≤ k by omega) (show y ≤ k by omega)
  rw [Nat.div_lt_iff_lt_mul (by omega), Nat.mul_add, Nat.add_mul]
  omega
/-- One step of a division: a digit of the quotient. -/
theorem div_step {D b q r x t : Nat} (h : D = q * b + r) (ht : t * b ≤ x + B * r) : x + B * D = (t + B * q) * b + (x + B * r - t * b) := by
  rw [h, Nat.add_mul, Nat.mul_add, Nat.mul_assoc]
  omega
/-- A product of numbers of m and n digits. -/
theorem mul_lt_pow {a b m n : Nat} (ha : a < B ^ m) (hb : b < B ^ n) : a * b < B ^ (m + n) := by
  rw [Nat.pow_add]
  exact Nat.mul_lt_mul'' ha hb
theorem pow_pos' (hB : 2 ≤ B) (i : Nat) : 0 < B ^ i := Nat.pow_pos (by omega)
end
end Go.Proofs.Ytpcliampffeknaa
