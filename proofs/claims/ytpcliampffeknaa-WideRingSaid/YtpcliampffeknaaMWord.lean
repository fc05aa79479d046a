/- Steps of words: a row of a product with a carry; digits written in place. No import of the program. -/
import Derived.Test.YtpcliampffeknaaMMul
namespace Go.Proofs.Ytpcliampffeknaa

section
variable {B : Nat}
/-- One step of a product by a word. -/
theorem mulc_step {r : List Nat} {k q X Y x y f : Nat} (hr : r.length = k) (h : val B r + B ^ k * q = X * f + Y) :
    val B (r ++ [(x * f + y + q) % B]) + B ^ (k + 1) * ((x * f + y + q) / B) = (X + B ^ k * x) * f + (Y + B ^ k * y) := by
  rw [plus_step hr h, Nat.add_mul, Nat.mul_assoc]
theorem mulc_lt {x y f q : Nat} (hx : x < B) (hy : y < B) (hf : f < B) (hq : q < B) : (x * f + y + q) / B < B := by
  have := carry_lt hy hx hf hq
  rwa [Nat.add_comm y] at this
/-- In place: the next digit is written behind r. -/
theorem set_mid (P r S : List Nat) (x d : Nat) {i : Nat} (hi : i = P.length + r.length) : (P ++ (r ++ (x :: S))).set i d = P ++ ((r ++ [d]) ++ S) := by
  subst hi
  rw [List.set_append_right _ _ (by omega), List.set_append_right _ _ (by omega)]
  simp
theorem getD_mid (P r S : List Nat) (x : Nat) {i : Nat} (hi : i = P.length + r.length) : (P ++ (r ++ (x :: S))).getD i 0 = x := by
  subst hi
  rw [List.getD_eq_getElem?_getD, List.getElem?_append_right (by omega), List.getElem?_append_right (by omega)]
  simp
theorem set_at (r S : List Nat) (x d : Nat) {i : Nat} (hi : r.length = i) : (r ++ (x :: S)).set i d = (r ++ [d]) ++ S := by
  simpa using set_mid [] r S x d (i := i) (by simpa using hi.symm)
theorem getD_at (r S : List Nat) (x : Nat) {i : Nat} (hi : r.length = i) : (r ++ (x :: S)).getD i 0 = x := by
  simpa using getD_mid [] r S x (i := i) (by simpa using hi.symm)
theorem drop_cons {l : List Nat} {k : Nat} (h : k < l.length) : l.drop k = l.getD k 0 :: l.drop (k + 1) := by
  rw [List.drop_eq_getElem_cons h, List.getD_eq_getElem?_getD, List.getElem?_eq_getElem h]; rfl
/-- A difference is done: nothing is borrowed at the end. -/
theorem minus_done {r la lb : List Nat} {q n : Nat} (hr : r.length = n) (hd : Dig B r) (hB : 0 < B) (hda : Dig B la) (hla : la.length = n) (hle : val B lb ≤ val B la)
    (h : val B r + val B (lb.take n) = val B (la.take n) + B ^ n * q) : val B r = val B la - val B lb := by
  have e2 := val_take_add (B := B) lb n
  have e3 := val_lt hB hda
  have e4 := val_lt hB hd
  rw [hla] at e3
  rw [hr] at e4
  rw [val_take_all (l := la) (by omega)] at h
  have e6 : val B (lb.drop n) = 0 := by
    rcases Nat.eq_zero_or_pos (val B (lb.drop n)) with e | e
    · exact e
    · have := Nat.mul_le_mul_left (B ^ n) e
      omega
  rw [e6, Nat.mul_zero] at e2
  rcases Nat.eq_zero_or_pos q with e | e
  · subst e; omega
  · have := Nat.mul_le_mul_left (B ^ n) e
    omega
/-- A sum, or a product by a word, is done: no carry is left where the value fits. -/
theorem carry_done {r : List Nat} {q n V : Nat} (_hr : r.length = n) (hB : 0 < B) (hV : V < B ^ n) (h : val B r + B ^ n * q = V) : q = 0 ∧ val B r = V := by
  rcases Nat.eq_zero_or_pos q with e | e
  · subst e; exact ⟨rfl, by omega⟩
  · have := Nat.mul_le_mul_left (B ^ n) e
    have := Nat.pow_pos (n := n) hB
    omega
theorem sum_fits (hB : 2 ≤ B) {la lb : List Nat} (ha : Dig B la) (hb : Dig B lb) : val B la + val B lb < B ^ (max la.length lb.length + 1) := by
  have h1 := val_lt (by omega) ha
  have h2 := val_lt (by omega) hb
  have h3 : B ^ la.length ≤ B ^ max la.length lb.length := Nat.pow_le_pow_right (by omega) (by omega)
  have h4 : B ^ lb.length ≤ B ^ max la.length lb.length := Nat.pow_le_pow_right (by omega) (by omega)
  have h5 : 2 * B ^ max la.length lb.length ≤ B ^ (max la.length lb.length + 1) := by
    rw [Nat.pow_succ, Nat.mul_comm]; exact Nat.mul_le_mul_left _ hB
  omega
theorem times_fits {la : List Nat} {f m : Nat} (ha : Dig B la) (hf : f < B) (hm : m < B) : val B la * f + m < B ^ (la.length + 1) := by
  have h1 := val_lt (by omega) ha
  obtain ⟨b, rfl⟩ : ∃ b, B = b + 1 := ⟨B - 1, by omega⟩
  have h4 := Nat.mul_le_mul_right (b + 1) h1
  have h5 : val (b + 1) la * f ≤ val (b + 1) la * b := Nat.mul_le_mul_left _ (by omega)
  rw [Nat.pow_succ]
  rw [Nat.succ_mul, Nat.mul_add, Nat.mul_one] at h4
  omega
end
end Go.Proofs.Ytpcliampffeknaa
