/- The guess of a quotient's digit, and a step of a long division. No import of the program. -/
import Derived.Test.YtpcliampffeknaaMWord
namespace Go.Proofs.Ytpcliampffeknaa

/-- The guess is not less than the digit. -/
theorem guess_ge {B m q : Nat} {pl bl : List Nat} (hB : 2 ≤ B) (hp : Dig B pl) (hpl : pl.length = m + 2) (hbl : bl.length = m + 1) (ht : 0 < bl.getD m 0) (h : q * val B bl ≤ val B pl) : q ≤ (pl.getD m 0 + B * pl.getD (m + 1) 0) / bl.getD m 0 := by
  have e1 := val_take_add (B := B) pl m
  have e2 := val_take_add (B := B) bl m
  have hlow := val_lt (B := B) (by omega) (dig_take hp m)
  rw [List.length_take, Nat.min_eq_left (by omega)] at hlow
  rw [val_drop, val_drop, List.drop_of_length_le (by omega)] at e1
  rw [val_drop, List.drop_of_length_le (by omega)] at e2
  simp only [val, Nat.mul_zero, Nat.add_zero] at e1 e2
  generalize pl.getD m 0 + B * pl.getD (m + 1) 0 = H at e1 ⊢
  generalize bl.getD m 0 = t at e2 ht ⊢
  rw [Nat.le_div_iff_mul_le ht]
  have hP : 0 < B ^ m := Nat.pow_pos (by omega)
  have h2 : q * (B ^ m * t) ≤ q * val B bl := Nat.mul_le_mul_left q (by omega)
  have h3 : B ^ m * (q * t) < B ^ m * (H + 1) := by
    rw [Nat.mul_left_comm, Nat.mul_add, Nat.mul_one]; omega
  have := Nat.lt_of_mul_lt_mul_left h3
  omega
theorem digit_lt {B b R x : Nat} (hR : R < b) (hx : x < B) : x + B * R < B * b := by
  have := Nat.mul_le_mul_left B hR
  rw [Nat.mul_succ] at this
  omega
/-- Behind the digits from j on: x is what is left and the quotient's digits so far times b. -/
structure DivInv (B x b m n nq j : Nat) (r oq : List Nat) : Prop where
  rl : r.length = n
  ql : oq.length = nq
  rd : Dig B r
  qd : Dig B oq
  lt : val B (r.drop j) < b
  eq : x = val B r + B ^ j * (val B (oq.drop j) * b)
section
variable {B x b m n nq j : Nat} {r oq : List Nat}
theorem DivInv.start (hB : 2 ≤ B) (hr : r.length = n) (hd : Dig B r) (hv : val B r = x) (hb : x < B ^ nq * b) : DivInv B x b m n nq nq r (List.replicate nq 0) := by
  refine ⟨hr, by simp, hd, dig_zeros (by omega) _, ?_, ?_⟩
  · have e := val_take_add (B := B) r nq
    rw [hv] at e
    have h : B ^ nq * val B (r.drop nq) < B ^ nq * b := by omega
    exact Nat.lt_of_mul_lt_mul_left h
  · rw [List.drop_of_length_le (by simp), hv]; simp [val]
/-- The part that the digit at j is for: m + 2 digits, and zeros above. -/
theorem DivInv.part (hB : 2 ≤ B) (h : DivInv B x b m n nq (j + 1) r oq) (hb : b < B ^ (m + 1)) (hj : j + (m + 2) ≤ n) :
    ∃ P seg T, r = P ++ (seg ++ T) ∧ P.length = j ∧ seg.length = m + 2 ∧ Dig B P ∧ Dig B seg ∧ Dig B T ∧ val B T = 0 ∧ val B seg < B * b ∧ x = val B P + B ^ j * (val B seg + B * (val B (oq.drop (j + 1)) * b)) := by
  have hl1 : (r.take j).length = j := by rw [List.length_take, h.rl]; omega
  have hl2 : ((r.drop j).take (m + 2)).length = m + 2 := by rw [List.length_take, List.length_drop, h.rl]; omega
  have ev := val_take_add (B := B) (r.drop j) (m + 2)
  have ed := val_drop (B := B) r j
  have hdig := dig_getD (B := B) (by omega) h.rd j
  have hlt := digit_lt (B := B) h.lt hdig
  rw [← ed] at hlt
  have hT : val B ((r.drop j).drop (m + 2)) = 0 := by
    rcases Nat.eq_zero_or_pos (val B ((r.drop j).drop (m + 2))) with e | e
    · exact e
    · have h1 := Nat.mul_le_mul_left (B ^ (m + 2)) e
      have h2 : B * b < B * B ^ (m + 1) := Nat.mul_lt_mul_of_pos_left hb (by omega)
      rw [show m + 2 = (m + 1) + 1 from rfl, Nat.pow_succ, Nat.mul_comm (B ^ (m + 1)) B] at h1 ev
      omega
  rw [hT, Nat.mul_zero, Nat.add_zero] at ev
  refine ⟨r.take j, (r.drop j).take (m + 2), (r.drop j).drop (m + 2), by rw [List.take_append_drop, List.take_append_drop], hl1, hl2, dig_take h.rd j, dig_take (dig_drop h.rd j) _, dig_drop (dig_drop h.rd j) _, hT, by rw [← ev]; exact hlt, ?_⟩
  have e1 := val_take_add (B := B) r j
  rw [← ev]
  have e2 := h.eq
  rw [Nat.pow_succ] at e2
  rw [Nat.mul_add, ← Nat.add_assoc, ← e1, ← Nat.mul_assoc (B ^ j) B]
  exact e2
theorem DivInv.next (h : DivInv B x b m n nq (j + 1) r oq) (hb0 : 0 < b) {P seg T s' : List Nat} {q : Nat} (hr : r = P ++ (seg ++ T)) (hP : P.length = j) (hs : seg.length = m + 2) (hs' : s'.length = m + 2) (hdP : Dig B P) (hdT : Dig B T) (hds : Dig B s') (hT : val B T = 0)
    (hq : q < B) (hqd : q = val B seg / b) (hv : val B s' = val B seg - b * q) (hx : x = val B P + B ^ j * (val B seg + B * (val B (oq.drop (j + 1)) * b))) (hj : j < nq) : DivInv B x b m n nq j (P ++ (s' ++ T)) (oq.set j q) := by
  have hle : b * q ≤ val B seg := by rw [hqd]; exact Nat.mul_div_le _ _
  have hmod : val B seg - b * q < b := by
    have := Nat.div_add_mod (val B seg) b
    have := Nat.mod_lt (val B seg) hb0
    rw [← hqd] at *
    omega
  have hdr : (P ++ (s' ++ T)).drop j = s' ++ T := by rw [← hP, List.drop_left]
  have hv2 : val B (s' ++ T) = val B s' := by rw [val_append, hT]; simp
  refine ⟨?_, by rw [List.length_set]; exact h.ql, dig_append.2 ⟨hdP, dig_append.2 ⟨hds, hdT⟩⟩, dig_set h.qd _ _ hq, ?_, ?_⟩
  · have := h.rl
    rw [hr, List.length_append, List.length_append, hs] at this
    rw [List.length_append, List.length_append, hs']
    exact this
  · rw [hdr, hv2, hv]; exact hmod
  · rw [val_append, hP, hv2, hv, val_drop (oq.set j q), List.drop_set_of_lt (by omega), set_getD_eq (by rw [h.ql]; exact hj), hx, Nat.add_assoc]
    congr 1
    rw [← Nat.mul_add]
    congr 1
    rw [Nat.add_mul, Nat.mul_assoc, Nat.mul_comm q b]
    omega
theorem DivInv.done (h : DivInv B x b m n nq 0 r oq) : x = val B r + val B oq * b ∧ val B r < b := by
  have h1 := h.eq
  have h2 := h.lt
  rw [List.drop_zero] at h1 h2
  rw [Nat.pow_zero, Nat.one_mul] at h1
  exact ⟨h1, h2⟩
end
theorem times_top {B m y t f : Nat} {l : List Nat} (hB : 0 < B) (hd : Dig B l) (hl : l.length = m + 1) (hy : val B l = y) (ht : l.getD m 0 = t) (hf : (t + 1) * f ≤ B) (hf0 : 0 < f) : y * f < B ^ (m + 1) := by
  have e := val_take_add (B := B) l m
  have hlow := val_lt hB (dig_take hd m)
  rw [List.length_take, Nat.min_eq_left (by omega)] at hlow
  rw [val_drop, List.drop_of_length_le (by omega), ht, hy] at e
  simp only [val, Nat.mul_zero, Nat.add_zero] at e
  have h1 : y < B ^ m * (t + 1) := by rw [Nat.mul_add, Nat.mul_one]; omega
  have h2 := Nat.mul_lt_mul_of_pos_right h1 hf0
  have h3 := Nat.mul_le_mul_left (B ^ m) hf
  rw [← Nat.mul_assoc] at h3
  rw [Nat.pow_succ]
  omega
/-- Both numbers times the same have the same quotient. -/
theorem div_scaled {x y f q r : Nat} (hf : 0 < f) (hy : 0 < y) (h : x * f = r + q * (y * f)) (hr : r < y * f) : x / y = q ∧ x % y = r / f := by
  have e : x * f = r + q * y * f := by rw [h, Nat.mul_assoc]
  obtain ⟨s, hs⟩ : ∃ s, r = s * f := by
    have h1 : f ∣ x * f := Nat.dvd_mul_left f x
    have h2 : f ∣ q * y * f := Nat.dvd_mul_left f _
    rw [e] at h1
    obtain ⟨s, hs⟩ := (Nat.dvd_add_left h2).1 h1
    exact ⟨s, by rw [hs, Nat.mul_comm]⟩
  subst hs
  have hx : x = s + q * y := by
    have : x * f = (s + q * y) * f := by rw [e, Nat.add_mul]
    exact Nat.eq_of_mul_eq_mul_right hf this
  have hsy : s < y := Nat.lt_of_mul_lt_mul_right hr
  rw [hx, Nat.mul_div_cancel _ hf, Nat.add_mul_div_right _ _ hy, Nat.div_eq_of_lt hsy, Nat.zero_add, Nat.add_mul_mod_self_right, Nat.mod_eq_of_lt hsy]
  exact ⟨rfl, rfl⟩
end Go.Proofs.Ytpcliampffeknaa
