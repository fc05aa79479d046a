/- Plain mathematics of package hash: mixing is a bijection of the state and of the word; the words of a list of bytes; the hash of a label and words. Conditions: none. -/
import Derived.Laws.BitsAllLaws
import Derived.Lib.Hide
import Derived.IntWalk
namespace Go.Proofs.Ytpcliampffeknaa
open Go.RowKit

/-- Mixing a word into a state. -/
def mx (s w : BitVec 64) : BitVec 64 := ((s ^^^ w) * 11400714819323198485#64) ^^^ (((s ^^^ w) * 11400714819323198485#64) >>> 32)

theorem unshift (m : BitVec 64) : (m ^^^ (m >>> 32)) ^^^ ((m ^^^ (m >>> 32)) >>> 32) = m := by
  rw [BitVec.ushiftRight_xor_distrib, ← BitVec.shiftRight_add, BitVec.ushiftRight_eq_zero (n := 32 + 32) (by omega)]
  rw [BitVec.xor_zero, BitVec.xor_assoc, BitVec.xor_self, BitVec.xor_zero]
theorem unmul (x : BitVec 64) : x * 11400714819323198485#64 * 17428512612931826493#64 = x := by
  rw [BitVec.mul_assoc, show (11400714819323198485#64 : BitVec 64) * 17428512612931826493#64 = 1#64 from by decide, BitVec.mul_one]
theorem mx_inj {s w s' w' : BitVec 64} (h : mx s w = mx s' w') : s ^^^ w = s' ^^^ w' := by
  have h1 : (s ^^^ w) * 11400714819323198485#64 = (s' ^^^ w') * 11400714819323198485#64 := by
    have a := unshift ((s ^^^ w) * 11400714819323198485#64)
    have b := unshift ((s' ^^^ w') * 11400714819323198485#64)
    unfold mx at h
    rw [h] at a
    exact a.symm.trans b
  have a := unmul (s ^^^ w)
  have b := unmul (s' ^^^ w')
  rw [h1] at a
  exact a.symm.trans b
theorem mx_word {s w w' : BitVec 64} (h : mx s w = mx s w') : w = w' := by
  have := congrArg (s ^^^ ·) (mx_inj h)
  simpa [← BitVec.xor_assoc] using this
theorem mx_state {s s' w : BitVec 64} (h : mx s w = mx s' w) : s = s' := by
  have := congrArg (· ^^^ w) (mx_inj h)
  simpa [BitVec.xor_assoc] using this
theorem mx_word_iff {s w w' : BitVec 64} : mx s w = mx s w' ↔ w = w' := ⟨mx_word, fun h => by rw [h]⟩
theorem mx_state_iff {s s' w : BitVec 64} : mx s w = mx s' w ↔ s = s' := ⟨mx_state, fun h => by rw [h]⟩

theorem mx_gen (x y C : BitVec 64) : (((x ^^^ y) * C) ^^^ (((x ^^^ y) * C) >>> 32)).toNat = ((x.toNat ^^^ y.toNat) * C.toNat % 2 ^ 64) ^^^ ((x.toNat ^^^ y.toNat) * C.toNat % 2 ^ 64 / 2 ^ 32) := by
  rw [BitVec.toNat_xor, BitVec.toNat_ushiftRight, BitVec.toNat_mul, BitVec.toNat_xor, Nat.shiftRight_eq_div_pow]
theorem two64 : (2 : Nat) ^ 64 = 18446744073709551616 := by decide
theorem two32 : (2 : Nat) ^ 32 = 4294967296 := by decide
theorem toNat_C : (11400714819323198485#64 : BitVec 64).toNat = 11400714819323198485 := by decide
theorem mx_toNat (x y : BitVec 64) : (mx x y).toNat = ((x.toNat ^^^ y.toNat) * 11400714819323198485 % 18446744073709551616) ^^^ ((x.toNat ^^^ y.toNat) * 11400714819323198485 % 18446744073709551616 / 4294967296) := by
  unfold mx
  rw [mx_gen, toNat_C, two64, two32]
theorem wrap_mul (n : Nat) : IntKind.u64.wrap ((n : Int) * 11400714819323198485) = ((n * 11400714819323198485 % 18446744073709551616 : Nat) : Int) := by
  rw [IntKind.wrap_u64]
  omega
theorem cast_div (n : Nat) : (n : Int) / 4294967296 = ((n / 4294967296 : Nat) : Int) := by omega
theorem div_lt (n : Nat) (h : n < 18446744073709551616) : n / 4294967296 < 18446744073709551616 := by omega
theorem mod_lt (n : Nat) : n % 18446744073709551616 < 18446744073709551616 := by omega
/-- What the program computes in one mixing is mx. -/
theorem bits_mx (x y : BitVec 64) :
    bits .xor .u64 (IntKind.u64.wrap (bits .xor .u64 (x.toNat : Int) (y.toNat : Int) * 11400714819323198485))
      (IntKind.u64.wrap (bits .xor .u64 (x.toNat : Int) (y.toNat : Int) * 11400714819323198485) / 4294967296) = ((mx x y).toNat : Int) := by
  rw [u64_xor_nat _ _ x.isLt y.isLt, wrap_mul, cast_div, u64_xor_nat _ _ (mod_lt _) (div_lt _ (mod_lt _)), mx_toNat]
theorem bits_mx' (x y : BitVec 64) :
    bits .xor .u64 (IntKind.u64.wrap (bits .xor .u64 (x.toNat : Int) (y.toNat : Int) * 11400714819323198485))
      (IntKind.u64.wrap ((IntKind.u64.wrap (bits .xor .u64 (x.toNat : Int) (y.toNat : Int) * 11400714819323198485)).tdiv 4294967296)) = ((mx x y).toNat : Int) := by
  rw [← bits_mx]
  generalize bits .xor .u64 (x.toNat : Int) (y.toNat : Int) * 11400714819323198485 = n
  have h0 : 0 ≤ IntKind.u64.wrap n ∧ IntKind.u64.wrap n < 18446744073709551616 := by rw [IntKind.wrap_u64]; omega
  rw [Int.tdiv_eq_ediv_of_nonneg h0.1, IntWalk.u64_in (IntKind.u64.wrap n / 4294967296) (by omega)]
theorem u64_ofInt (v : Int) : IntKind.u64.wrap v = ((BitVec.ofInt 64 v).toNat : Int) := by
  rw [IntKind.wrap_u64, BitVec.toNat_ofInt]
  omega
theorem i64_wrap64 (n : Int) : IntKind.i64.wrap n = wrap64 n := by
  unfold wrap64
  simp [IntKind.wrap, IntKind.bits, IntKind.signed]
  split <;> omega
theorem i64_toInt (x : BitVec 64) : IntKind.i64.wrap (x.toNat : Int) = x.toInt := by
  have := x.isLt
  rw [BitVec.toInt_eq_toNat_cond]
  rw [two64] at this
  rw [i64_wrap64]
  unfold wrap64
  rw [two64]
  split <;> omega
theorem ofNat_small (n : Nat) (h : n < 18446744073709551616) : (n : Int) = ((BitVec.ofNat 64 n).toNat : Int) := by
  rw [BitVec.toNat_ofNat]
  omega
/-! ### The words of a list of bytes -/
/-- Bytes as a number, the least first. -/
def leN : List UInt8 → Nat
  | [] => 0
  | c :: r => c.toNat + 256 * leN r
theorem leN_lt : (l : List UInt8) → leN l < 256 ^ l.length
  | [] => by simp [leN]
  | c :: r => by
    have := leN_lt r
    have hc := c.toNat_lt
    simp only [leN, List.length_cons, Nat.pow_succ]
    omega
theorem leN_snoc : (l : List UInt8) → (c : UInt8) → leN (l ++ [c]) = leN l + c.toNat * 256 ^ l.length
  | [], c => by simp [leN]
  | d :: r, c => by
    have := leN_snoc r c
    simp only [leN, List.cons_append, List.length_cons, this, Nat.pow_succ, Nat.mul_add]
    rw [Nat.mul_comm 256 (c.toNat * _), Nat.mul_assoc]
    omega
theorem leN_inj : {l l' : List UInt8} → l.length = l'.length → leN l = leN l' → l = l'
  | [], [], _, _ => rfl
  | c :: r, c' :: r', hl, h => by
    have hc := c.toNat_lt
    have hc' := c'.toNat_lt
    simp only [leN] at h
    have e : c.toNat = c'.toNat := by omega
    have e2 : leN r = leN r' := by omega
    rw [UInt8.toNat_inj.1 e, leN_inj (by simpa using hl) e2]
/-- The word at the head of a list of bytes: its first eight, padded with zero bytes. -/
def wordL (l : List UInt8) : BitVec 64 := BitVec.ofNat 64 (leN (l.take 8))
theorem leN_take_lt (l : List UInt8) (k : Nat) (hk : k ≤ 8) : leN (l.take k) < 18446744073709551616 := by
  have h := leN_lt (l.take k)
  have h2 : (l.take k).length ≤ 8 := by simp; omega
  have h3 : 256 ^ (l.take k).length ≤ 256 ^ 8 := Nat.pow_le_pow_right (by omega) h2
  have : (256 : Nat) ^ 8 = 18446744073709551616 := by decide
  omega
theorem wordL_toNat (l : List UInt8) : (wordL l).toNat = leN (l.take 8) := by
  unfold wordL
  rw [BitVec.toNat_ofNat]
  exact Nat.mod_eq_of_lt (leN_take_lt l 8 (by omega))
theorem take_succ_getElem? {l : List UInt8} {k : Nat} {c : UInt8} (h : l[k]? = some c) : l.take (k + 1) = l.take k ++ [c] := by
  rw [List.take_add_one, h]; rfl
theorem leN_take_succ {l : List UInt8} {k : Nat} {c : UInt8} (h : l[k]? = some c) : leN (l.take (k + 1)) = leN (l.take k) + c.toNat * 256 ^ k := by
  rw [take_succ_getElem? h, leN_snoc]
  have hk : k < l.length := (List.getElem?_eq_some_iff.1 h).1
  rw [List.length_take, Nat.min_eq_left (by omega)]
theorem u64_or_shl (l : List UInt8) (k : Nat) (c : UInt8) (hk : k < 8) (h : l[k]? = some c) :
    bits .or .u64 (leN (l.take k) : Int) (IntKind.u64.wrap ((c.toNat : Int) * 2 ^ (8 * k))) = (leN (l.take (k + 1)) : Int) := by
  have hc := c.toNat_lt
  have e : (2 : Int) ^ (8 * k) = ((2 ^ (8 * k) : Nat) : Int) := by simp
  have hp : (2 : Nat) ^ (8 * k) ≤ 2 ^ 56 := Nat.pow_le_pow_right (by omega) (by omega)
  have hm : c.toNat * 2 ^ (8 * k) < 18446744073709551616 := by
    have : c.toNat * 2 ^ (8 * k) ≤ 255 * 2 ^ 56 := Nat.mul_le_mul (by omega) hp
    omega
  have hl := leN_lt (l.take k)
  have hkl : k < l.length := (List.getElem?_eq_some_iff.1 h).1
  rw [List.length_take, Nat.min_eq_left (by omega), show 256 = 2 ^ 8 from rfl, ← Nat.pow_mul] at hl
  rw [e, ← Int.natCast_mul, IntKind.wrap_u64, show ((c.toNat * 2 ^ (8 * k) : Nat) : Int) % 18446744073709551616 = ((c.toNat * 2 ^ (8 * k) : Nat) : Int) from by omega]
  rw [u64_or_nat _ _ (leN_take_lt l k (by omega)) hm, leN_take_succ h, show 256 = 2 ^ 8 from rfl, ← Nat.pow_mul]
  congr 1
  rw [Nat.or_comm, Nat.mul_comm, ← Nat.two_pow_add_eq_or_of_lt hl]
  omega
/-- All words of a list of bytes. -/
def wordsL (l : List UInt8) : List (BitVec 64) := (List.range ((l.length + 7) / 8)).map fun k => wordL (l.drop (8 * k))
theorem wordsL_length (l : List UInt8) : (wordsL l).length = (l.length + 7) / 8 := by simp [wordsL]

/-- Bytes, and words, as integers. -/
def bI (l : List UInt8) : List Int := l.map fun c => (c.toNat : Int)
theorem bI_length (l : List UInt8) : (bI l).length = l.length := by simp [bI]
theorem bI_get {l : List UInt8} {j : Nat} (h : j < l.length) : (bI l).getD j 0 = ((l[j]).toNat : Int) := by
  simp [bI, h]
theorem bI_take (l : List UInt8) (k : Nat) : (bI l).take k = bI (l.take k) := by simp [bI, List.map_take]
def wI (l : List (BitVec 64)) : List Int := l.map fun x => (x.toNat : Int)
theorem wI_length (l : List (BitVec 64)) : (wI l).length = l.length := by simp [wI]
theorem leN_drop {l : List UInt8} {k t : Nat} (h : k < l.length) : leN ((l.drop k).take (t + 1)) = (l[k]).toNat + 256 * leN ((l.drop (k + 1)).take t) := by
  rw [List.drop_eq_getElem_cons h, List.take_succ_cons, leN]
theorem leN_take_all {l : List UInt8} {k : Nat} (h : l.length ≤ k) (h8 : k ≤ 8) : leN (l.take k) = leN (l.take 8) := by
  rw [List.take_of_length_le h, List.take_of_length_le (by omega)]
theorem wordsL_take_succ (l : List UInt8) {j : Nat} (h : 8 * j < l.length) : (wordsL l).take (j + 1) = (wordsL l).take j ++ [wordL (l.drop (8 * j))] := by
  rw [List.take_add_one, List.getElem?_eq_getElem (by rw [wordsL_length]; omega)]
  simp [wordsL]
theorem wordsL_take_all (l : List UInt8) {j : Nat} (h : l.length ≤ 8 * j) : (wordsL l).take j = wordsL l := by
  rw [List.take_of_length_le (by rw [wordsL_length]; omega)]

/-! ### The hash -/
def mxs (s : BitVec 64) (ws : List (BitVec 64)) : BitVec 64 := ws.foldl mx s
theorem mxs_snoc (s : BitVec 64) (ws : List (BitVec 64)) (x : BitVec 64) : mxs s (ws ++ [x]) = mx (mxs s ws) x := by simp [mxs]
def mxi (s : BitVec 64) (ws : List Int) : BitVec 64 := ws.foldl (fun s v => mx s (BitVec.ofInt 64 v)) s
theorem mxi_snoc (s : BitVec 64) (ws : List Int) (x : Int) : mxi s (ws ++ [x]) = mx (mxi s ws) (BitVec.ofInt 64 x) := by simp [mxi]
/-- The state behind a label and the number of the words. -/
def headS (label : List UInt8) (n : Nat) : BitVec 64 := mx (mx (mxs 0#64 (wordsL label)) (BitVec.ofNat 64 label.length)) (BitVec.ofNat 64 n)
/-- P1.1 -/
def sumS (label : List UInt8) (ws : List Int) : BitVec 64 := mx (mxi (headS label ws.length) ws) 0#64
/-- The arguments that Bytes hands to Sum. -/
def argsB (b : List UInt8) : List Int := (wordsL b).map (·.toInt) ++ [(b.length : Int)]
/-- P1.2 -/
def bytesS (label b : List UInt8) : BitVec 64 := sumS label (argsB b)
def pairL : List UInt8 := [112, 97, 105, 114]
def pairS (x y : BitVec 64) : BitVec 64 := sumS pairL [x.toInt, y.toInt]
end Go.Proofs.Ytpcliampffeknaa
