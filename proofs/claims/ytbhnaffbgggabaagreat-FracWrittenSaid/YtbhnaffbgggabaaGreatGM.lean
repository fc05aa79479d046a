/- What else is needed of the mathematics of bytes and hashes. No walk. -/
import Derived.Laws.BitsAllLaws
import Derived.Lib.Hide
import Derived.IntWalk
import Derived.Below
import Derived.Laws.OwnMore
import Derived.WideShapes
import Derived.Laws.Rows
import Derived.OwnWalk
import Derived.Laws.AppendOwnNone
import Derived.Maps.AppendAt
import Derived.Lib.ConvBytes
import Derived.Laws.Slices
import Derived.Laws.BytesString
import Derived.Laws.Cells
import Derived.Lib.AppendStr
import Derived.Deep.Draws
import Derived.Laws.NewBlocks
import Derived.Test.YtbhnaffbgggabaaGreatB1

namespace Go.Proofs.YtbhnaffbgggabaaGreat
open Go.RowKit
/-- Mixing a word into a state. -/
def mx (s w : BitVec 64) : BitVec 64 := ((s ^^^ w) * 11400714819323198485#64) ^^^ (((s ^^^ w) * 11400714819323198485#64) >>> 32)

theorem mx_gen (x y C : BitVec 64) : (((x ^^^ y) * C) ^^^ (((x ^^^ y) * C) >>> 32)).toNat = ((x.toNat ^^^ y.toNat) * C.toNat % 2 ^ 64) ^^^ ((x.toNat ^^^ y.toNat) * C.toNat % 2 ^ 64 / 2 ^ 32) := by
  rw [BitVec.toNat_xor, BitVec.toNat_ushiftRight, BitVec.toNat_mul, BitVec.toNat_xor, Nat.shiftRight_eq_div_pow]
theorem two64 : (2 : Nat) ^ 64 = 18446744073709551616 := by decide
theorem two32 : (2 : Nat) ^ 32 = 4294967296 := by decide
theorem toNat_C : (11400714819323198485#64 : BitVec 64).toNat = 11400714819323198485 := by decide
theorem mx_toNat (x y : BitVec 64) : (mx x y).toNat = ((x.toNat ^^^ y.toNat) * 11400714819323198485 % 18446744073709551616) ^^^ ((x.toNat ^^^ y.toNat) * 11400714819323198485 % 18446744073709551616 / 4294967296) := by
  unfold mx
  rw [mx_gen, toNat_C, two64, two32]
theorem wrap_mul (n : Nat) : IntKind.u64.wrap ((n : Int) * 11400714819323198485) = ((n * 11400714819323198485 % 18446744073709551616 : Nat) : Int) := by
  rw [IntKind.wrap_u64]
  omega
theorem cast_div (n : Nat) : (n : Int) / 4294967296 = ((n / 4294967296 : Nat) : Int) := by omega
theorem div_lt (n : Nat) (h : n < 18446744073709551616) : n / 4294967296 < 18446744073709551616 := by omega
/-- What the program computes in one mixing is mx. -/
theorem bits_mx (x y : BitVec 64) :
    bits .xor .u64 (IntKind.u64.wrap (bits .xor .u64 (x.toNat : Int) (y.toNat : Int) * 11400714819323198485))
      (IntKind.u64.wrap (bits .xor .u64 (x.toNat : Int) (y.toNat : Int) * 11400714819323198485) / 4294967296) = ((mx x y).toNat : Int) := by
  rw [u64_xor_nat _ _ x.isLt y.isLt, wrap_mul, cast_div, u64_xor_nat _ _ (mod_lt _) (div_lt _ (mod_lt _)), mx_toNat]
theorem u64_ofInt (v : Int) : IntKind.u64.wrap v = ((BitVec.ofInt 64 v).toNat : Int) := by
  rw [IntKind.wrap_u64, BitVec.toNat_ofInt]
  omega
theorem i64_wrap64 (n : Int) : IntKind.i64.wrap n = wrap64 n := by
  unfold wrap64
  simp [IntKind.wrap, IntKind.bits, IntKind.signed]
  split <;> omega
theorem i64_toInt (x : BitVec 64) : IntKind.i64.wrap (x.toNat : Int) = x.toInt := by
  have := x.isLt
  rw [BitVec.toInt_eq_toNat_cond]
  rw [two64] at this
  rw [i64_wrap64]
  unfold wrap64
  rw [two64]
  split <;> omega
theorem ofNat_small (n : Nat) (h : n < 18446744073709551616) : (n : Int) = ((BitVec.ofNat 64 n).toNat : Int) := by
  rw [BitVec.toNat_ofNat]
  omega
/-! ### The words of a list of bytes -/
/-- Bytes as a number, the least first. -/
def leN : List UInt8 → Nat
  | [] => 0
  | c :: r => c.toNat + 256 * leN r
theorem leN_lt : (l : List UInt8) → leN l < 256 ^ l.length
  | [] => by simp [leN]
  | c :: r => by
    have := leN_lt r
    have hc := c.toNat_lt
    simp only [leN, List.length_cons, Nat.pow_succ]
    omega
theorem leN_snoc : (l : List UInt8) → (c : UInt8) → leN (l ++ [c]) = leN l + c.toNat * 256 ^ l.length
  | [], c => by simp [leN]
  | d :: r, c => by
    have := leN_snoc r c
    simp only [leN, List.cons_append, List.length_cons, this, Nat.pow_succ, Nat.mul_add]
    rw [Nat.mul_comm 256 (c.toNat * _), Nat.mul_assoc]
    omega
/-- The word at the head of a list of bytes: its first eight, padded with zero bytes. -/
def wordL (l : List UInt8) : BitVec 64 := BitVec.ofNat 64 (leN (l.take 8))
theorem leN_take_lt (l : List UInt8) (k : Nat) (hk : k ≤ 8) : leN (l.take k) < 18446744073709551616 := by
  have h := leN_lt (l.take k)
  have h2 : (l.take k).length ≤ 8 := by simp; omega
  have h3 : 256 ^ (l.take k).length ≤ 256 ^ 8 := Nat.pow_le_pow_right (by omega) h2
  have : (256 : Nat) ^ 8 = 18446744073709551616 := by decide
  omega
theorem wordL_toNat (l : List UInt8) : (wordL l).toNat = leN (l.take 8) := by
  unfold wordL
  rw [BitVec.toNat_ofNat]
  exact Nat.mod_eq_of_lt (leN_take_lt l 8 (by omega))
theorem take_succ_getElem? {l : List UInt8} {k : Nat} {c : UInt8} (h : l[k]? = some c) : l.take (k + 1) = l.take k ++ [c] := by
  rw [List.take_add_one, h]; rfl
theorem leN_take_succ {l : List UInt8} {k : Nat} {c : UInt8} (h : l[k]? = some c) : leN (l.take (k + 1)) = leN (l.take k) + c.toNat * 256 ^ k := by
  rw [take_succ_getElem? h, leN_snoc]
  have hk : k < l.length := (List.getElem?_eq_some_iff.1 h).1
  rw [List.length_take, Nat.min_eq_left (by omega)]
theorem u64_or_shl (l : List UInt8) (k : Nat) (c : UInt8) (hk : k < 8) (h : l[k]? = some c) :
    bits .or .u64 (leN (l.take k) : Int) (IntKind.u64.wrap ((c.toNat : Int) * 2 ^ (8 * k))) = (leN (l.take (k + 1)) : Int) := by
  have hc := c.toNat_lt
  have e : (2 : Int) ^ (8 * k) = ((2 ^ (8 * k) : Nat) : Int) := by simp
  have hp : (2 : Nat) ^ (8 * k) ≤ 2 ^ 56 := Nat.pow_le_pow_right (by omega) (by omega)
  have hm : c.toNat * 2 ^ (8 * k) < 18446744073709551616 := by
    have : c.toNat * 2 ^ (8 * k) ≤ 255 * 2 ^ 56 := Nat.mul_le_mul (by omega) hp
    omega
  have hl := leN_lt (l.take k)
  have hkl : k < l.length := (List.getElem?_eq_some_iff.1 h).1
  rw [List.length_take, Nat.min_eq_left (by omega), show 256 = 2 ^ 8 from rfl, ← Nat.pow_mul] at hl
  rw [e, ← Int.natCast_mul, IntKind.wrap_u64, show ((c.toNat * 2 ^ (8 * k) : Nat) : Int) % 18446744073709551616 = ((c.toNat * 2 ^ (8 * k) : Nat) : Int) from by omega]
  rw [u64_or_nat _ _ (leN_take_lt l k (by omega)) hm, leN_take_succ h, show 256 = 2 ^ 8 from rfl, ← Nat.pow_mul]
  congr 1
  rw [Nat.or_comm, Nat.mul_comm, ← Nat.two_pow_add_eq_or_of_lt hl]
  omega
/-- All words of a list of bytes. -/
def wordsL (l : List UInt8) : List (BitVec 64) := (List.range ((l.length + 7) / 8)).map fun k => wordL (l.drop (8 * k))
theorem wordsL_length (l : List UInt8) : (wordsL l).length = (l.length + 7) / 8 := by simp [wordsL]

theorem bI_get {l : List UInt8} {j : Nat} (h : j < l.length) : (bI l).getD j 0 = ((l[j]).toNat : Int) := by
  simp [bI, h]
theorem leN_take_all {l : List UInt8} {k : Nat} (h : l.length ≤ k) (h8 : k ≤ 8) : leN (l.take k) = leN (l.take 8) := by
  rw [List.take_of_length_le h, List.take_of_length_le (by omega)]
theorem wordsL_take_succ (l : List UInt8) {j : Nat} (h : 8 * j < l.length) : (wordsL l).take (j + 1) = (wordsL l).take j ++ [wordL (l.drop (8 * j))] := by
  rw [List.take_add_one, List.getElem?_eq_getElem (by rw [wordsL_length]; omega)]
  simp [wordsL]
theorem wordsL_take_all (l : List UInt8) {j : Nat} (h : l.length ≤ 8 * j) : (wordsL l).take j = wordsL l := by
  rw [List.take_of_length_le (by rw [wordsL_length]; omega)]

/-! ### The hash -/
def mxs (s : BitVec 64) (ws : List (BitVec 64)) : BitVec 64 := ws.foldl mx s
theorem mxs_snoc (s : BitVec 64) (ws : List (BitVec 64)) (x : BitVec 64) : mxs s (ws ++ [x]) = mx (mxs s ws) x := by simp [mxs]
def mxi (s : BitVec 64) (ws : List Int) : BitVec 64 := ws.foldl (fun s v => mx s (BitVec.ofInt 64 v)) s
theorem mxi_snoc (s : BitVec 64) (ws : List Int) (x : Int) : mxi s (ws ++ [x]) = mx (mxi s ws) (BitVec.ofInt 64 x) := by simp [mxi]
/-- The state behind a label and the number of the words. -/
def headS (label : List UInt8) (n : Nat) : BitVec 64 := mx (mx (mxs 0#64 (wordsL label)) (BitVec.ofNat 64 label.length)) (BitVec.ofNat 64 n)
/-- P1.1 -/
def sumS (label : List UInt8) (ws : List Int) : BitVec 64 := mx (mxi (headS label ws.length) ws) 0#64
/-- The arguments that Bytes hands to Sum. -/
def argsB (b : List UInt8) : List Int := (wordsL b).map (·.toInt) ++ [(b.length : Int)]
/-- P1.2 -/
def bytesS (label b : List UInt8) : BitVec 64 := sumS label (argsB b)
end Go.Proofs.YtbhnaffbgggabaaGreat

namespace Go.Proofs.YtbhnaffbgggabaaGreat
open Go.RowKit

/-- The varint of a number. -/
def uv (n : Nat) : List UInt8 := if n < 128 then [UInt8.ofNat n] else UInt8.ofNat (n % 128 + 128) :: uv (n / 128)
termination_by n
decreasing_by omega
theorem uv_lt {n : Nat} (h : n < 128) : uv n = [UInt8.ofNat n] := by rw [uv, if_pos h]
theorem uv_ge {n : Nat} (h : 128 ≤ n) : uv n = UInt8.ofNat (n % 128 + 128) :: uv (n / 128) := by rw [uv, if_neg (by omega)]
theorem u8nat (n : Nat) (h : n < 256) : (UInt8.ofNat n).toNat = n := by rw [UInt8.toNat_ofNat']; omega

/-- What a reader holds: the bytes that are left, and the error (0: none, 2: form, 3: more). -/
structure St where
  l : List UInt8
  e : Nat
deriving DecidableEq

def scan : Nat → Nat → List UInt8 → Nat × St
  | _, _, [] => (0, ⟨[], 3⟩)
  | i, acc, c :: r => if (i = 9 ∧ 1 < c.toNat) ∨ (0 < i ∧ c.toNat = 0) then (0, ⟨r, 2⟩) else if c.toNat < 128 then (acc + c.toNat * 128 ^ i, ⟨r, 0⟩) else scan (i + 1) (acc + c.toNat % 128 * 128 ^ i) r
def uintS (s : St) : Nat × St := if s.e ≠ 0 then (0, s) else scan 0 0 s.l
def lenS (s : St) : Nat × St := if (uintS s).2.l.length < (uintS s).1 then (0, ⟨(uintS s).2.l, 3⟩) else uintS s
def partS (s : St) : List UInt8 × St := if (lenS s).2.e ≠ 0 then ([], (lenS s).2) else ((lenS s).2.l.take (lenS s).1, ⟨(lenS s).2.l.drop (lenS s).1, 0⟩)
theorem uintS_err {s : St} (h : s.e ≠ 0) : uintS s = (0, s) := by rw [uintS, if_pos h]
theorem pow128 (i : Nat) : 0 < 128 ^ i := Nat.pow_pos (by omega)
theorem scan_rt (r : List UInt8) : ∀ (n i acc : Nat), (0 < i → 0 < n) → n * 128 ^ i < 18446744073709551616 → scan i acc (uv n ++ r) = (acc + n * 128 ^ i, ⟨r, 0⟩) := by
  intro n
  induction n using Nat.strongRecOn with
  | ind n ih =>
    intro i acc hi hn
    have hp := pow128 i
    by_cases h : n < 128
    · rw [uv_lt h, List.cons_append, List.nil_append, scan, u8nat n (by omega), if_neg, if_pos h]
      rintro (⟨rfl, h1⟩ | ⟨h1, h2⟩)
      · have : 2 * 128 ^ 9 ≤ n * 128 ^ 9 := Nat.mul_le_mul_right _ h1
        have e : (128 : Nat) ^ 9 = 9223372036854775808 := by decide
        omega
      · have := hi h1; omega
    · have hc : (UInt8.ofNat (n % 128 + 128)).toNat = n % 128 + 128 := u8nat _ (by omega)
      have e : n % 128 * 128 ^ i + n / 128 * 128 ^ (i + 1) = n * 128 ^ i := by
        rw [Nat.pow_succ, Nat.mul_comm (128 ^ i) 128, ← Nat.mul_assoc, ← Nat.add_mul]
        congr 1; omega
      rw [uv_ge (by omega), List.cons_append, scan, hc, if_neg, if_neg (by omega), ih (n / 128) (by omega) (i + 1) _ (fun _ => by omega) (by omega)]
      · congr 1
        rw [Nat.add_mod_right, Nat.mod_mod]
        omega
      · rintro (⟨rfl, h1⟩ | ⟨h1, h2⟩)
        · have : 128 * 128 ^ 9 ≤ n * 128 ^ 9 := Nat.mul_le_mul_right _ (by omega)
          have e : (128 : Nat) ^ 9 = 9223372036854775808 := by decide
          omega
        · omega
theorem scan_one : ∀ (l : List UInt8) (i acc v : Nat) (r : List UInt8), i ≤ 9 → scan i acc l = (v, ⟨r, 0⟩) → ∃ n, l = uv n ++ r ∧ v = acc + n * 128 ^ i ∧ (0 < i → 0 < n) ∧ n * 128 ^ i < 18446744073709551616
  | [], i, acc, v, r, _, h => by simp [scan] at h
  | c :: l, i, acc, v, r, hi, h => by
    rw [scan] at h
    split at h
    · simp at h
    · rename_i hn
      have hc := c.toNat_lt
      have hpl : 128 ^ i ≤ 128 ^ 9 := Nat.pow_le_pow_right (by omega) hi
      have e9 : (128 : Nat) ^ 9 = 9223372036854775808 := by decide
      split at h
      · rename_i hlt
        simp only [Prod.mk.injEq, St.mk.injEq, and_true] at h
        obtain ⟨h1, h2⟩ := h
        subst h2
        refine ⟨c.toNat, by rw [uv_lt hlt]; simp, h1.symm, fun h0 => by omega, ?_⟩
        by_cases e : i = 9
        · subst e
          have : c.toNat * 128 ^ 9 ≤ 1 * 128 ^ 9 := Nat.mul_le_mul_right _ (by omega)
          omega
        · have h8 : 128 ^ i ≤ 128 ^ 8 := Nat.pow_le_pow_right (by omega) (by omega)
          have e8 : (128 : Nat) ^ 8 = 72057594037927936 := by decide
          have : c.toNat * 128 ^ i ≤ 127 * 128 ^ 8 := Nat.mul_le_mul (by omega) h8
          omega
      · rename_i hge
        have hi9 : i ≠ 9 := fun e => by subst e; exact hn (.inl ⟨rfl, by omega⟩)
        obtain ⟨n, h1, h2, h3, h4⟩ := scan_one l (i + 1) _ v r (by omega) h
        have e : c.toNat % 128 * 128 ^ i + n * 128 ^ (i + 1) = (c.toNat % 128 + 128 * n) * 128 ^ i := by
          rw [Nat.pow_succ, Nat.mul_comm (128 ^ i) 128, ← Nat.mul_assoc, ← Nat.add_mul, Nat.mul_comm n 128]
        have hn0 := h3 (by omega)
        refine ⟨c.toNat % 128 + 128 * n, ?_, by omega, fun _ => by omega, ?_⟩
        · rw [uv_ge (by omega), h1, List.cons_append]
          congr 1
          · rw [show (c.toNat % 128 + 128 * n) % 128 + 128 = c.toNat by omega]; simp
          · rw [show (c.toNat % 128 + 128 * n) / 128 = n by omega]
        · rw [← e]
          -- both parts are multiples of 128^i, the first below one step of the second
          have hq : n * 128 ^ (i + 1) + 128 ^ (i + 1) ≤ 18446744073709551616 := by
            have hp := pow128 (i + 1)
            have hd : 128 ^ (i + 1) ∣ 18446744073709551616 ∨ i + 1 = 10 := by
              left
              have : i + 1 ≤ 9 := by omega
              have e : (18446744073709551616 : Nat) = 128 ^ (i + 1) * (2 * 128 ^ (9 - (i + 1))) := by
                rw [Nat.mul_left_comm, ← Nat.pow_add, show i + 1 + (9 - (i + 1)) = 9 by omega]
              exact ⟨_, e⟩
            rcases hd with ⟨q, hq⟩ | hd
            · rw [hq] at h4 ⊢
              rw [Nat.mul_comm n] at h4 ⊢
              have := Nat.lt_of_mul_lt_mul_left h4
              rw [← Nat.mul_succ]
              exact Nat.mul_le_mul_left _ this
            · omega
          have : c.toNat % 128 * 128 ^ i < 128 ^ (i + 1) := by
            rw [Nat.pow_succ, Nat.mul_comm (128 ^ i)]
            exact Nat.mul_lt_mul_of_pos_right (by omega) (pow128 i)
          omega
theorem uv_len : ∀ (n : Nat) (k : Nat), n < 128 ^ (k + 1) → (uv n).length ≤ k + 1 := by
  intro n
  induction n using Nat.strongRecOn with
  | ind n ih =>
    intro k hk
    by_cases h : n < 128
    · rw [uv_lt h]; simp
    · rw [uv_ge (by omega)]
      match k with
      | 0 => simp at hk; omega
      | k + 1 =>
        have := ih (n / 128) (by omega) k (by rw [Nat.pow_succ] at hk; omega)
        simp; omega
theorem uv_len10 {n : Nat} (h : n < 18446744073709551616) : (uv n).length ≤ 10 := uv_len n 9 (Nat.lt_trans h (by decide))
theorem scan_zero : ∀ (l : List UInt8) (i acc v : Nat) (s : St), scan i acc l = (v, s) → s.e ≠ 0 → v = 0 := by
  intro l
  induction l with
  | nil => intro i acc v s h _; simp [scan] at h; exact h.1.symm
  | cons c r ih =>
    intro i acc v s h he
    rw [scan] at h
    split at h
    · simp at h; exact h.1.symm
    · split at h
      · simp at h; rw [← h.2] at he; simp at he
      · exact ih _ _ _ _ h he
end Go.Proofs.YtbhnaffbgggabaaGreat

namespace Go.Proofs.YtbhnaffbgggabaaGreat
open Go.RowKit

theorem uintS_rt {n : Nat} (h : n < 18446744073709551616) (r : List UInt8) : uintS ⟨uv n ++ r, 0⟩ = (n, ⟨r, 0⟩) := by
  rw [uintS, if_neg (by simp)]
  show scan 0 0 (uv n ++ r) = _
  rw [scan_rt r n 0 0 (fun h => by omega) (by simpa using h)]
  simp
theorem uintS_one {s : St} {v : Nat} {r : List UInt8} (h : uintS s = (v, ⟨r, 0⟩)) : s.e = 0 ∧ s.l = uv v ++ r ∧ v < 18446744073709551616 := by
  by_cases he : s.e = 0
  · rw [uintS, if_neg (by simp [he])] at h
    obtain ⟨n, h1, h2, _, h4⟩ := scan_one _ _ _ _ _ (by omega) h
    simp at h2 h4
    subst h2
    exact ⟨he, h1, h4⟩
  · rw [uintS_err he] at h
    simp only [Prod.mk.injEq] at h
    rw [h.2] at he
    exact absurd rfl he
theorem uintS_zero {s : St} (h : (uintS s).2.e ≠ 0) : (uintS s).1 = 0 := by
  by_cases he : s.e = 0
  · rw [uintS, if_neg (by simp [he])] at h ⊢
    exact scan_zero _ _ _ _ _ rfl h
  · rw [uintS_err he]
theorem uintS_lt (s : St) : (uintS s).1 < 18446744073709551616 := by
  rcases h : uintS s with ⟨v, r, e⟩
  by_cases he : e = 0
  · subst he; exact (uintS_one h).2.2
  · have := uintS_zero (s := s) (by rw [h]; exact he)
    rw [h] at this
    simp only at this ⊢
    omega
theorem lenS_e (s : St) : (lenS s).2.e ≠ 0 → (lenS s).1 = 0 := by
  unfold lenS
  split
  · intro; rfl
  · exact uintS_zero
theorem lenS_le (s : St) : (lenS s).1 ≤ (lenS s).2.l.length := by
  unfold lenS
  split
  · exact Nat.zero_le _
  · omega
theorem lenS_rt {n : Nat} (h : n < 18446744073709551616) (r : List UInt8) (hr : n ≤ r.length) : lenS ⟨uv n ++ r, 0⟩ = (n, ⟨r, 0⟩) := by
  rw [lenS, uintS_rt h, if_neg (by simp; omega)]
theorem partS_rt (b r : List UInt8) (h : b.length < 18446744073709551616) : partS ⟨uv b.length ++ b ++ r, 0⟩ = (b, ⟨r, 0⟩) := by
  rw [partS, List.append_assoc, lenS_rt h _ (by simp), if_neg (by simp)]
  simp
end Go.Proofs.YtbhnaffbgggabaaGreat

namespace Go.Proofs.YtbhnaffbgggabaaGreat
open Go.RowKit

section
variable {k : IntKind} {w w' : World} {B B' : Nat} {sv : Value} {xs : List Int}
theorem Rd.form (h : Rd k w B sv xs) : ∃ a c, sv = .slice a xs.length c := by
  rcases h with ⟨rfl, rfl⟩ | ⟨b, off, c, rfl, _⟩
  · exact ⟨none, 0, rfl⟩
  · exact ⟨_, c, rfl⟩
end
/-- A string made into bytes: a new slice that reads as the string's bytes; what lay lies as it lay. -/
theorem conv_bytes {P : Program} (w : World) (src dst e : TypeId) (s : ByteArray) (hs : P.underlying src = some .string) (hd : P.underlying dst = some (.slice e)) (he : P.underlying e = some (.int .u8)) :
    ∃ W1 c, (convert src dst (.string s)).run P w = .ok (.slice (some ⟨w.heap.size, 0, none⟩) s.size c) W1 ∧ Below w.heap.size w W1 ∧ Rd .u8 W1 W1.heap.size (.slice (some ⟨w.heap.size, 0, none⟩) s.size c) (bI s.data.toList) := by
  refine ⟨Lib.bytesWorld w e s, grownCap w s.size 0 e, Lib.run_convert_string_bytes w src dst e s hs hd he, ⟨?_, ?_, ?_, ?_, ?_⟩, .inr ⟨w.heap.size, 0, grownCap w s.size 0 e, ?_, ?_, ?_, ?_⟩⟩
  · simp [Lib.bytesWorld, World.freeze, World.alloc, World.drew, -World.alloc_eq, -World.drew_eq]
  · simp [Lib.bytesWorld, World.freeze, World.alloc, World.drew, -World.alloc_eq, -World.drew_eq]
  · simp [Lib.bytesWorld, World.freeze, World.alloc, World.drew, -World.alloc_eq, -World.drew_eq]
  · rw [Lib.bytesWorld_size]; omega
  · exact fun k hk => Lib.bytesWorld_at_old w e s k hk
  · rw [bI_length]; simp
  · rw [bI_length]
    simpa using grownCap_ge w s.size 0 e
  · rw [Lib.bytesWorld_size]; omega
  · intro j v hj
    have hlt : j < s.size := by have := (List.getElem?_eq_some_iff.1 hj).1; rw [bI_length] at this; simpa using this
    rw [Nat.zero_add, Lib.bytesWorld_cell w e s j hlt]
    have hlt' : j < s.data.toList.length := by simpa using hlt
    have h2 := bI_get hlt'
    rw [List.getD_eq_getElem?_getD, hj] at h2
    rw [List.getD_eq_getElem?_getD, List.getElem?_eq_getElem hlt']
    simpa using h2.symm
end Go.Proofs.YtbhnaffbgggabaaGreat

namespace Go.Proofs.YtbhnaffbgggabaaGreat
open Go.RowKit

section
variable {t t' : Nat → Prop} {w w' w'' : World}
end

section
variable {k : IntKind} {w w' : World} {ok ok' t : Nat → Prop} {sv : Value} {xs : List Int} {B : Nat}
theorem In.form (h : In k w ok sv xs) : ∃ a c, sv = .slice a xs.length c := h.rd.form
/-- s[j:] and s[:j] of such a slice, as one equation each. -/
theorem In.from_ {P : Program} {ty e : TypeId} (ht : P.underlying ty = some (.slice e)) (hs : ∀ W, (sizeOf e).run P W = .ok 1 W) {a : Option Addr} {n c : Nat} (h : In k w ok (.slice a n c) xs) (j : Nat) (hj : j ≤ n) (z : Int) (hz : z = (j : Int)) :
    ∃ a' c', (∀ W, (Instr.slice ty (.slice a n c) (some (.int .i64 z)) none none).run P W = .ok (.slice a' (n - j) c') W) ∧ In k w ok (.slice a' (n - j) c') (xs.drop j) := by
  have he : P.elem ty = e := by simp [Program.elem, ht]
  obtain ⟨hn, hc⟩ := h.len
  subst hz
  refine ⟨if c = j then a else a.map (·.add (j * 1)), c - j, fun W => ?_, ?_⟩
  · rw [run_slice_l (ht := by rw [ht, he]) (h0 := by omega) (h1 := by omega), he, hs W]
    simp only [Result.andThen, sliced, Int.toNat_natCast]
  · rcases h with ⟨h, rfl⟩ | ⟨b, off, c', h1, h2, h3, h4, h5⟩
    · injection h with h1 h2 h3
      subst h1 h2 h3
      obtain rfl : j = 0 := by omega
      exact .inl ⟨by simp, by simp⟩
    · injection h1 with h1 h6 h7
      subst h1 h7
      by_cases e : c = j
      · rw [if_pos e]
        have : xs.drop j = [] := List.drop_of_length_le (by omega)
        rw [this]
        exact .inr ⟨b, off, c - j, by rw [show n - j = 0 by omega]; rfl, Nat.zero_le _, h3, h4, fun i v hi => by simp at hi⟩
      · rw [if_neg e]
        refine .inr ⟨b, off + j, c - j, ?_, ?_, h3, h4, fun i v hi => ?_⟩
        · rw [List.length_drop, h6, Nat.mul_one, Option.map_some, Go.WideShapes.add_plain]
        · rw [List.length_drop]; omega
        · rw [List.getElem?_drop] at hi
          rw [Nat.add_assoc]
          exact h5 _ v hi
end

end Go.Proofs.YtbhnaffbgggabaaGreat

namespace Go.Proofs.YtbhnaffbgggabaaGreat

section
variable {B : Nat}
end
end Go.Proofs.YtbhnaffbgggabaaGreat

namespace Go.Proofs.YtbhnaffbgggabaaGreat

end Go.Proofs.YtbhnaffbgggabaaGreat

namespace Go.Proofs.YtbhnaffbgggabaaGreat

end Go.Proofs.YtbhnaffbgggabaaGreat

namespace Go.Proofs.YtbhnaffbgggabaaGreat
open Go.RowKit

theorem nI_drop (l : List Nat) (i : Nat) : nI (l.drop i) = (nI l).drop i := by simp [nI]
section
variable {k : IntKind} {ok ok' : Nat → Prop} {w w' : World} {v : Value} {l : List Nat} {a : Option Addr} {n c : Nat}
theorem LO.form (h : LO k ok w v l) : ∃ a c, v = .slice a l.length c := by
  have := In.form h
  rwa [nI_len] at this
/-- s[j:] -/
theorem LO.from_ {P : Program} {ty e : TypeId} (ht : P.underlying ty = some (.slice e)) (hs : ∀ W, (sizeOf e).run P W = .ok 1 W) (h : LO k ok w (.slice a n c) l) (j : Nat) (hj : j ≤ n) (z : Int) (hz : z = (j : Int)) :
    ∃ a' c', (∀ W, (Instr.slice ty (.slice a n c) (some (.int .i64 z)) none none).run P W = .ok (.slice a' (n - j) c') W) ∧ LO k ok w (.slice a' (n - j) c') (l.drop j) := by
  obtain ⟨a', c', h1, h2⟩ := In.from_ ht hs h j hj z hz
  exact ⟨a', c', h1, by unfold LO; rw [nI_drop]; exact h2⟩
end
section
variable {k : IntKind} {w w' : World} {g : Nat} {t : TypeId} {l : List Nat}
end
end Go.Proofs.YtbhnaffbgggabaaGreat

namespace Go.Proofs.YtbhnaffbgggabaaGreat

section
variable {B : Nat} {la lb o : List Nat} {i k c : Nat}
end
end Go.Proofs.YtbhnaffbgggabaaGreat

namespace Go.Proofs.YtbhnaffbgggabaaGreat

section
variable {B : Nat}
end
end Go.Proofs.YtbhnaffbgggabaaGreat

namespace Go.Proofs.YtbhnaffbgggabaaGreat

section
variable {B x b m n nq j : Nat} {r oq : List Nat}
end
end Go.Proofs.YtbhnaffbgggabaaGreat

namespace Go.Proofs.YtbhnaffbgggabaaGreat
end Go.Proofs.YtbhnaffbgggabaaGreat

