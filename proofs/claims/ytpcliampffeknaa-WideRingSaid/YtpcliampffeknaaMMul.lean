/- Products by rows: the state of the digits behind i rows, and inside a row. No import of the program. -/
import Derived.Test.YtpcliampffeknaaMNum
namespace Go.Proofs.Ytpcliampffeknaa

theorem set_getD_ne {l : List Nat} {i j v : Nat} (h : i ≠ j) : (l.set i v).getD j 0 = l.getD j 0 := by
  rw [List.getD_eq_getElem?_getD, List.getElem?_set_ne h, ← List.getD_eq_getElem?_getD]
theorem set_getD_eq {l : List Nat} {i v : Nat} (h : i < l.length) : (l.set i v).getD i 0 = v := by
  rw [List.getD_eq_getElem?_getD, List.getElem?_set_self h]; rfl
/-- Behind i rows. -/
structure MulInv (B : Nat) (la lb : List Nat) (i : Nat) (o : List Nat) : Prop where
  len : o.length = la.length + lb.length
  dig : Dig B o
  val : val B o = val B (la.take i) * val B lb
  zero : ∀ j, i + lb.length ≤ j → o.getD j 0 = 0
/-- Inside row i, behind k digits, with a carry. -/
structure RowInv (B : Nat) (la lb : List Nat) (i k c : Nat) (o : List Nat) : Prop where
  len : o.length = la.length + lb.length
  dig : Dig B o
  carry : c < B
  val : val B o + B ^ (i + k) * c = val B (la.take i) * val B lb + B ^ i * la.getD i 0 * val B (lb.take k)
  zero : ∀ j, i + lb.length ≤ j → o.getD j 0 = 0
section
variable {B : Nat} {la lb o : List Nat} {i k c : Nat}
theorem MulInv.start (hB : 0 < B) (la lb : List Nat) : MulInv B la lb 0 (List.replicate (la.length + lb.length) 0) :=
  ⟨by simp, dig_zeros hB _, by rw [val_zeros]; simp [Proofs.Ytpcliampffeknaa.val], fun j _ => by
    rw [List.getD_eq_getElem?_getD, List.getElem?_replicate]; split <;> rfl⟩
theorem MulInv.row (hB : 0 < B) (h : MulInv B la lb i o) : RowInv B la lb i 0 0 o :=
  ⟨h.len, h.dig, hB, by rw [h.val]; simp [Proofs.Ytpcliampffeknaa.val], h.zero⟩
theorem RowInv.step (hB : 0 < B) (ha : Dig B la) (hb : Dig B lb) (h : RowInv B la lb i k c o) (hi : i < la.length) (hk : k < lb.length) :
    RowInv B la lb i (k + 1) ((o.getD (i + k) 0 + la.getD i 0 * lb.getD k 0 + c) / B) (o.set (i + k) ((o.getD (i + k) 0 + la.getD i 0 * lb.getD k 0 + c) % B)) := by
  refine ⟨by rw [List.length_set]; exact h.len, dig_set h.dig _ _ (Nat.mod_lt _ hB), carry_lt (dig_getD hB h.dig _) (dig_getD hB ha _) (dig_getD hB hb _) h.carry, ?_, fun j hj => ?_⟩
  · have := mul_step (x := la.getD i 0) (y := lb.getD k 0) (by rw [h.len]; omega) h.val
    rw [← Nat.add_assoc, this, val_take_succ, Nat.mul_add, Nat.add_assoc]
  · rw [set_getD_ne (by omega)]
    exact h.zero j hj
theorem RowInv.done (h : RowInv B la lb i lb.length c o) (hi : i < la.length) : MulInv B la lb (i + 1) (o.set (i + lb.length) c) := by
  have hz := h.zero (i + lb.length) (Nat.le_refl _)
  refine ⟨by rw [List.length_set]; exact h.len, dig_set h.dig _ _ h.carry, ?_, fun j hj => ?_⟩
  · have h1 := val_set (B := B) (l := o) (j := i + lb.length) (by rw [h.len]; omega) c
    rw [hz, Nat.mul_zero, Nat.add_zero] at h1
    rw [h1, h.val, val_take_succ, Nat.add_mul, List.take_length]
  · rw [set_getD_ne (by omega)]
    exact h.zero j (by omega)
theorem MulInv.all (h : MulInv B la lb la.length o) : Proofs.Ytpcliampffeknaa.val B o = Proofs.Ytpcliampffeknaa.val B la * Proofs.Ytpcliampffeknaa.val B lb := by
  rw [h.val, List.take_length]
end
end Go.Proofs.Ytpcliampffeknaa
