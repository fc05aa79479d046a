/- Plain mathematics of package wire: varints, zigzag, the encodings of values, reading them; round trip, one encoding, proper prefixes. Conditions: none. -/
import Derived.Test.YtpcliampffeknaaHMath
namespace Go.Proofs.Ytpcliampffeknaa
open Go.RowKit

/-- The varint of a number. -/
def uv (n : Nat) : List UInt8 := if n < 128 then [UInt8.ofNat n] else UInt8.ofNat (n % 128 + 128) :: uv (n / 128)
termination_by n
decreasing_by omega
theorem uv_lt {n : Nat} (h : n < 128) : uv n = [UInt8.ofNat n] := by rw [uv, if_pos h]
theorem uv_ge {n : Nat} (h : 128 ≤ n) : uv n = UInt8.ofNat (n % 128 + 128) :: uv (n / 128) := by rw [uv, if_neg (by omega)]
theorem u8nat (n : Nat) (h : n < 256) : (UInt8.ofNat n).toNat = n := by rw [UInt8.toNat_ofNat']; omega

/-- The zigzag form and back. -/
def zz (n : Int) : Nat := if 0 ≤ n then (2 * n).toNat else (-2 * n - 1).toNat
def back (z : Nat) : Int := if z % 2 = 1 then -((z / 2 : Nat) : Int) - 1 else ((z / 2 : Nat) : Int)
theorem back_zz (n : Int) : back (zz n) = n := by unfold back zz; split <;> split <;> omega
theorem zz_back (z : Nat) : zz (back z) = z := by unfold back zz; split <;> split <;> omega
theorem zz_lt {n : Int} (h1 : -9223372036854775808 ≤ n) (h2 : n ≤ 9223372036854775807) : zz n < 18446744073709551616 := by unfold zz; split <;> omega
theorem back_bd {z : Nat} (h : z < 18446744073709551616) : -9223372036854775808 ≤ back z ∧ back z ≤ 9223372036854775807 := by unfold back; split <;> omega

/-- What a reader holds: the bytes that are left, and the error (0: none, 2: form, 3: more). -/
structure St where
  l : List UInt8
  e : Nat
deriving DecidableEq

def scan : Nat → Nat → List UInt8 → Nat × St
  | _, _, [] => (0, ⟨[], 3⟩)
  | i, acc, c :: r => if (i = 9 ∧ 1 < c.toNat) ∨ (0 < i ∧ c.toNat = 0) then (0, ⟨r, 2⟩) else if c.toNat < 128 then (acc + c.toNat * 128 ^ i, ⟨r, 0⟩) else scan (i + 1) (acc + c.toNat % 128 * 128 ^ i) r
def uintS (s : St) : Nat × St := if s.e ≠ 0 then (0, s) else scan 0 0 s.l
def intS (s : St) : Int × St := (back (uintS s).1, (uintS s).2)
def boolS (s : St) : Bool × St :=
  if s.e ≠ 0 then (false, s) else match s.l with
  | [] => (false, ⟨[], 3⟩)
  | c :: r => if 1 < c.toNat then (false, ⟨r, 2⟩) else (decide (c.toNat = 1), ⟨r, 0⟩)
def lenS (s : St) : Nat × St := if (uintS s).2.l.length < (uintS s).1 then (0, ⟨(uintS s).2.l, 3⟩) else uintS s
def partS (s : St) : List UInt8 × St := if (lenS s).2.e ≠ 0 then ([], (lenS s).2) else ((lenS s).2.l.take (lenS s).1, ⟨(lenS s).2.l.drop (lenS s).1, 0⟩)
/-- What is read after i elements: the numbers and the reader. -/
def upTo (s : St) : Nat → List Int × St
  | 0 => ([], s)
  | i + 1 => ((upTo s i).1 ++ [(intS (upTo s i).2).1], (intS (upTo s i).2).2)
def intsS (s : St) : List Int × St := if (upTo (lenS s).2 (lenS s).1).2.e ≠ 0 then ([], (upTo (lenS s).2 (lenS s).1).2) else upTo (lenS s).2 (lenS s).1

theorem uintS_err {s : St} (h : s.e ≠ 0) : uintS s = (0, s) := by rw [uintS, if_pos h]
theorem intS_err {s : St} (h : s.e ≠ 0) : intS s = (0, s) := by rw [intS, uintS_err h]; simp [back]
theorem lenS_err {s : St} (h : s.e ≠ 0) : lenS s = (0, s) := by rw [lenS, uintS_err h, if_neg (by simp)]
theorem upTo_err {s : St} (h : s.e ≠ 0) (i : Nat) : (upTo s i).2 = s := by
  induction i with
  | zero => rfl
  | succ i ih => rw [upTo, ih, intS_err h]
theorem upTo_stay {s : St} {i j : Nat} (h : (upTo s i).2.e ≠ 0) (hj : i ≤ j) : (upTo s j).2 = (upTo s i).2 := by
  induction j with
  | zero => obtain rfl : i = 0 := by omega
            rfl
  | succ j ih =>
    by_cases e : i = j + 1
    · subst e; rfl
    · have := ih (by omega)
      rw [upTo, this, intS_err h]
theorem upTo_length (s : St) (i : Nat) : (upTo s i).1.length = i := by
  induction i with
  | zero => rfl
  | succ i ih => rw [upTo, List.length_append, ih]; rfl

/-- A value: kind 0 unsigned, 1 signed, 2 truth value, 3 string, 4 bytes, else list. -/
structure V where
  k : Nat
  u : Nat
  n : Int
  b : List UInt8
  l : List Int
deriving DecidableEq
def ofInts (l : List Int) : List UInt8 := l.flatMap fun n => uv (zz n)
def encV (x : V) : List UInt8 :=
  match x.k with
  | 0 => uv x.u
  | 1 => uv (zz x.n)
  | 2 => [if x.n = 1 then 1 else 0]
  | 3 => uv x.b.length ++ x.b
  | 4 => uv x.b.length ++ x.b
  | _ => uv x.l.length ++ ofInts x.l
def encs (l : List V) : List UInt8 := l.flatMap encV
theorem encs_snoc (l : List V) (x : V) : encs (l ++ [x]) = encs l ++ encV x := by simp [encs]
theorem encs_cons (l : List V) (x : V) : encs (x :: l) = encV x ++ encs l := by simp [encs]
def readV (k : Nat) (s : St) : V × St :=
  match k with
  | 0 => (⟨0, (uintS s).1, 0, [], []⟩, (uintS s).2)
  | 1 => (⟨1, 0, (intS s).1, [], []⟩, (intS s).2)
  | 2 => (⟨2, 0, if (boolS s).1 then 1 else 0, [], []⟩, (boolS s).2)
  | 3 => (⟨3, 0, 0, (partS s).1, []⟩, (partS s).2)
  | 4 => (⟨4, 0, 0, (partS s).1, []⟩, (partS s).2)
  | k + 5 => (⟨k + 5, 0, 0, [], (intsS s).1⟩, (intsS s).2)
theorem readV_k (k : Nat) (s : St) : (readV k s).1.k = k := by unfold readV; split <;> rfl
/-- A value as a reader returns it: what its kind doesn't use is zero; what it uses is in range. -/
def ok64 (n : Int) : Prop := -9223372036854775808 ≤ n ∧ n ≤ 9223372036854775807
def Good (x : V) : Prop :=
  match x with
  | ⟨0, u, n, b, l⟩ => u < 18446744073709551616 ∧ n = 0 ∧ b = [] ∧ l = []
  | ⟨1, u, n, b, l⟩ => u = 0 ∧ ok64 n ∧ b = [] ∧ l = []
  | ⟨2, u, n, b, l⟩ => u = 0 ∧ (n = 0 ∨ n = 1) ∧ b = [] ∧ l = []
  | ⟨3, u, n, b, l⟩ => u = 0 ∧ n = 0 ∧ b.length < 1000000 ∧ l = []
  | ⟨4, u, n, b, l⟩ => u = 0 ∧ n = 0 ∧ b.length < 1000000 ∧ l = []
  | ⟨_ + 5, u, n, b, l⟩ => u = 0 ∧ n = 0 ∧ b = [] ∧ l.length < 1000000 ∧ ∀ y ∈ l, ok64 y

theorem pow128 (i : Nat) : 0 < 128 ^ i := Nat.pow_pos (by omega)
theorem scan_rt (r : List UInt8) : ∀ (n i acc : Nat), (0 < i → 0 < n) → n * 128 ^ i < 18446744073709551616 → scan i acc (uv n ++ r) = (acc + n * 128 ^ i, ⟨r, 0⟩) := by
  intro n
  induction n using Nat.strongRecOn with
  | ind n ih =>
    intro i acc hi hn
    have hp := pow128 i
    by_cases h : n < 128
    · rw [uv_lt h, List.cons_append, List.nil_append, scan, u8nat n (by omega), if_neg, if_pos h]
      rintro (⟨rfl, h1⟩ | ⟨h1, h2⟩)
      · have : 2 * 128 ^ 9 ≤ n * 128 ^ 9 := Nat.mul_le_mul_right _ h1
        have e : (128 : Nat) ^ 9 = 9223372036854775808 := by decide
        omega
      · have := hi h1; omega
    · have hc : (UInt8.ofNat (n % 128 + 128)).toNat = n % 128 + 128 := u8nat _ (by omega)
      have e : n % 128 * 128 ^ i + n / 128 * 128 ^ (i + 1) = n * 128 ^ i := by
        rw [Nat.pow_succ, Nat.mul_comm (128 ^ i) 128, ← Nat.mul_assoc, ← Nat.add_mul]
        congr 1; omega
      rw [uv_ge (by omega), List.cons_append, scan, hc, if_neg, if_neg (by omega), ih (n / 128) (by omega) (i + 1) _ (fun _ => by omega) (by omega)]
      · congr 1
        rw [Nat.add_mod_right, Nat.mod_mod]
        omega
      · rintro (⟨rfl, h1⟩ | ⟨h1, h2⟩)
        · have : 128 * 128 ^ 9 ≤ n * 128 ^ 9 := Nat.mul_le_mul_right _ (by omega)
          have e : (128 : Nat) ^ 9 = 9223372036854775808 := by decide
          omega
        · omega
theorem scan_one : ∀ (l : List UInt8) (i acc v : Nat) (r : List UInt8), i ≤ 9 → scan i acc l = (v, ⟨r, 0⟩) → ∃ n, l = uv n ++ r ∧ v = acc + n * 128 ^ i ∧ (0 < i → 0 < n) ∧ n * 128 ^ i < 18446744073709551616
  | [], i, acc, v, r, _, h => by simp [scan] at h
  | c :: l, i, acc, v, r, hi, h => by
    rw [scan] at h
    split at h
    · simp at h
    · rename_i hn
      have hc := c.toNat_lt
      have hpl : 128 ^ i ≤ 128 ^ 9 := Nat.pow_le_pow_right (by omega) hi
      have e9 : (128 : Nat) ^ 9 = 9223372036854775808 := by decide
      split at h
      · rename_i hlt
        simp only [Prod.mk.injEq, St.mk.injEq, and_true] at h
        obtain ⟨h1, h2⟩ := h
        subst h2
        refine ⟨c.toNat, by rw [uv_lt hlt]; simp, h1.symm, fun h0 => by omega, ?_⟩
        by_cases e : i = 9
        · subst e
          have : c.toNat * 128 ^ 9 ≤ 1 * 128 ^ 9 := Nat.mul_le_mul_right _ (by omega)
          omega
        · have h8 : 128 ^ i ≤ 128 ^ 8 := Nat.pow_le_pow_right (by omega) (by omega)
          have e8 : (128 : Nat) ^ 8 = 72057594037927936 := by decide
          have : c.toNat * 128 ^ i ≤ 127 * 128 ^ 8 := Nat.mul_le_mul (by omega) h8
          omega
      · rename_i hge
        have hi9 : i ≠ 9 := fun e => by subst e; exact hn (.inl ⟨rfl, by omega⟩)
        obtain ⟨n, h1, h2, h3, h4⟩ := scan_one l (i + 1) _ v r (by omega) h
        have e : c.toNat % 128 * 128 ^ i + n * 128 ^ (i + 1) = (c.toNat % 128 + 128 * n) * 128 ^ i := by
          rw [Nat.pow_succ, Nat.mul_comm (128 ^ i) 128, ← Nat.mul_assoc, ← Nat.add_mul, Nat.mul_comm n 128]
        have hn0 := h3 (by omega)
        refine ⟨c.toNat % 128 + 128 * n, ?_, by omega, fun _ => by omega, ?_⟩
        · rw [uv_ge (by omega), h1, List.cons_append]
          congr 1
          · rw [show (c.toNat % 128 + 128 * n) % 128 + 128 = c.toNat by omega]; simp
          · rw [show (c.toNat % 128 + 128 * n) / 128 = n by omega]
        · rw [← e]
          -- both parts are multiples of 128^i, the first below one step of the second
          have hq : n * 128 ^ (i + 1) + 128 ^ (i + 1) ≤ 18446744073709551616 := by
            have hp := pow128 (i + 1)
            have hd : 128 ^ (i + 1) ∣ 18446744073709551616 ∨ i + 1 = 10 := by
              left
              have : i + 1 ≤ 9 := by omega
              have e : (18446744073709551616 : Nat) = 128 ^ (i + 1) * (2 * 128 ^ (9 - (i + 1))) := by
                rw [Nat.mul_left_comm, ← Nat.pow_add, show i + 1 + (9 - (i + 1)) = 9 by omega]
              exact ⟨_, e⟩
            rcases hd with ⟨q, hq⟩ | hd
            · rw [hq] at h4 ⊢
              rw [Nat.mul_comm n] at h4 ⊢
              have := Nat.lt_of_mul_lt_mul_left h4
              rw [← Nat.mul_succ]
              exact Nat.mul_le_mul_left _ this
            · omega
          have : c.toNat % 128 * 128 ^ i < 128 ^ (i + 1) := by
            rw [Nat.pow_succ, Nat.mul_comm (128 ^ i)]
            exact Nat.mul_lt_mul_of_pos_right (by omega) (pow128 i)
          omega
theorem scan_prefix : ∀ (n i acc : Nat) (p q : List UInt8), (0 < i → 0 < n) → n * 128 ^ i < 18446744073709551616 → p ++ q = uv n → q ≠ [] → scan i acc p = (0, ⟨[], 3⟩) := by
  intro n
  induction n using Nat.strongRecOn with
  | ind n ih =>
    intro i acc p q hi hn hpq hq
    match p, hpq with
    | [], _ => rfl
    | c :: p, hpq =>
      by_cases h : n < 128
      · rw [uv_lt h, List.cons_append] at hpq
        injection hpq with _ h2
        simp at h2
        exact absurd h2.2 hq
      · rw [uv_ge (by omega), List.cons_append] at hpq
        injection hpq with h1 h2
        subst h1
        have hc : (UInt8.ofNat (n % 128 + 128)).toNat = n % 128 + 128 := u8nat _ (by omega)
        have hp := pow128 i
        have e : n % 128 * 128 ^ i + n / 128 * 128 ^ (i + 1) = n * 128 ^ i := by
          rw [Nat.pow_succ, Nat.mul_comm (128 ^ i) 128, ← Nat.mul_assoc, ← Nat.add_mul]
          congr 1; omega
        rw [scan, hc, if_neg, if_neg (by omega)]
        · exact ih (n / 128) (by omega) (i + 1) _ p q (fun _ => by omega) (by omega) h2 hq
        · rintro (⟨rfl, h1⟩ | ⟨h1, h2⟩)
          · have : 128 * 128 ^ 9 ≤ n * 128 ^ 9 := Nat.mul_le_mul_right _ (by omega)
            have e : (128 : Nat) ^ 9 = 9223372036854775808 := by decide
            omega
          · omega
theorem uv_pos (n : Nat) : 1 ≤ (uv n).length := by rw [uv]; split <;> simp
theorem uv_len : ∀ (n : Nat) (k : Nat), n < 128 ^ (k + 1) → (uv n).length ≤ k + 1 := by
  intro n
  induction n using Nat.strongRecOn with
  | ind n ih =>
    intro k hk
    by_cases h : n < 128
    · rw [uv_lt h]; simp
    · rw [uv_ge (by omega)]
      match k with
      | 0 => simp at hk; omega
      | k + 1 =>
        have := ih (n / 128) (by omega) k (by rw [Nat.pow_succ] at hk; omega)
        simp; omega
theorem uv_len10 {n : Nat} (h : n < 18446744073709551616) : (uv n).length ≤ 10 := uv_len n 9 (Nat.lt_trans h (by decide))
theorem scan_zero : ∀ (l : List UInt8) (i acc v : Nat) (s : St), scan i acc l = (v, s) → s.e ≠ 0 → v = 0 := by
  intro l
  induction l with
  | nil => intro i acc v s h _; simp [scan] at h; exact h.1.symm
  | cons c r ih =>
    intro i acc v s h he
    rw [scan] at h
    split at h
    · simp at h; exact h.1.symm
    · split at h
      · simp at h; rw [← h.2] at he; simp at he
      · exact ih _ _ _ _ h he
theorem scan_e : ∀ (l : List UInt8) (i acc : Nat), (scan i acc l).2.e ≤ 3 := by
  intro l
  induction l with
  | nil => intro i acc; simp [scan]
  | cons c r ih =>
    intro i acc
    rw [scan]
    split
    · simp
    · split
      · simp
      · exact ih _ _
end Go.Proofs.Ytpcliampffeknaa
