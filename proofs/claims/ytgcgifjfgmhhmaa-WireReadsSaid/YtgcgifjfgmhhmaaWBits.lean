/- Bits: the expressions of package wire over 64-bit and 8-bit numbers. Conditions: the numbers are in range. -/
import Derived.Test.YtgcgifjfgmhhmaaWMath
namespace Go.Proofs.Ytgcgifjfgmhhmaa
open Go.RowKit

theorem or128_nat : ∀ x : Nat, x < 256 → x ||| 128 = x % 128 + 128 := by decide +kernel
theorem or128 (x : Nat) (h : x < 256) : bits .or .u8 (x : Int) 128 = ((x % 128 + 128 : Nat) : Int) := by
  rw [show (128 : Int) = ((128 : Nat) : Int) from rfl, u8_or_nat x 128 h (by decide), or128_nat x h]
theorem or128' (x : Int) (h0 : 0 ≤ x) (h : x < 256) : bits .or .u8 x 128 = x % 128 + 128 := by
  obtain ⟨n, rfl⟩ := Int.eq_ofNat_of_zero_le h0
  rw [or128 n (by omega)]; omega
theorem xor_ones (x : Nat) (h : x < 18446744073709551616) : x ^^^ 18446744073709551615 = 18446744073709551615 - x := by
  have e : (BitVec.ofNat 64 x) ^^^ BitVec.allOnes 64 = ~~~ (BitVec.ofNat 64 x) := BitVec.xor_allOnes
  have e2 := congrArg BitVec.toNat e
  rw [BitVec.toNat_xor, BitVec.toNat_not, BitVec.toNat_allOnes, BitVec.toNat_ofNat, two64, Nat.mod_eq_of_lt h] at e2
  simpa using e2
/-- The zigzag form as the program computes it. -/
theorem zz_prog (n : Int) (h1 : -9223372036854775808 ≤ n) (h2 : n ≤ 9223372036854775807) :
    bits .xor .u64 (IntKind.u64.wrap (IntKind.i64.wrap (n * 2))) (IntKind.u64.wrap (n / 9223372036854775808)) = (zz n : Int) := by
  by_cases h : 0 ≤ n
  · have e1 : n / 9223372036854775808 = 0 := by omega
    have e2 : IntKind.u64.wrap (IntKind.i64.wrap (n * 2)) = ((2 * n).toNat : Int) := by rw [IntKind.wrap_i64, IntKind.wrap_u64]; omega
    have e3 : IntKind.u64.wrap 0 = ((0 : Nat) : Int) := by rw [IntKind.wrap_u64]; rfl
    rw [e1, e2, e3, u64_xor_nat _ 0 (by omega) (by decide), Nat.xor_zero, zz, if_pos h]
  · have e1 : n / 9223372036854775808 = -1 := by omega
    have e2 : IntKind.u64.wrap (IntKind.i64.wrap (n * 2)) = ((18446744073709551616 + 2 * n).toNat : Int) := by rw [IntKind.wrap_i64, IntKind.wrap_u64]; omega
    have e3 : IntKind.u64.wrap (-1) = ((18446744073709551615 : Nat) : Int) := by rw [IntKind.wrap_u64]; rfl
    rw [e1, e2, e3, u64_xor_nat _ _ (by omega) (by decide), xor_ones _ (by omega), zz, if_neg h]
    omega
/-- Back out of the zigzag form as the program computes it. -/
theorem back_prog (z : Nat) (h : z < 18446744073709551616) :
    bits .xor .i64 (IntKind.i64.wrap ((z / 2 : Nat) : Int)) (IntKind.i64.wrap (-(IntKind.i64.wrap ((z % 2 : Nat) : Int)))) = back z := by
  rw [IntKind.wrap_i64 ((z / 2 : Nat) : Int), IntKind.wrap_i64 ((z % 2 : Nat) : Int)]
  have e1 : (((z / 2 : Nat) : Int) + 9223372036854775808) % 18446744073709551616 - 9223372036854775808 = ((z / 2 : Nat) : Int) := by omega
  have e2 : (((z % 2 : Nat) : Int) + 9223372036854775808) % 18446744073709551616 - 9223372036854775808 = ((z % 2 : Nat) : Int) := by omega
  rw [e1, e2]
  have hb : ∀ (x : Nat) (y : Int), x < 9223372036854775808 → bits .xor .i64 (x : Int) y = IntKind.i64.wrap ((BitVec.ofNat 64 x ^^^ BitVec.ofInt 64 y).toNat : Int) := by
    intro x y _
    show IntKind.i64.wrap ((BitVec.ofInt 64 (x : Int) ^^^ BitVec.ofInt 64 y).toNat : Int) = _
    rw [BitVec.ofInt_natCast]
  by_cases hz : z % 2 = 1
  · rw [hz, back, if_pos hz, hb _ _ (by omega)]
    have e3 : BitVec.ofInt 64 (IntKind.i64.wrap (-((1 : Nat) : Int))) = BitVec.allOnes 64 := by decide
    rw [e3, BitVec.xor_allOnes, BitVec.toNat_not, BitVec.toNat_ofNat, two64, IntKind.wrap_i64]
    omega
  · have hz0 : z % 2 = 0 := by omega
    rw [hz0, back, if_neg hz, hb _ _ (by omega)]
    have e3 : BitVec.ofInt 64 (IntKind.i64.wrap (-((0 : Nat) : Int))) = 0#64 := by decide
    rw [e3, BitVec.xor_zero, BitVec.toNat_ofNat, two64, IntKind.wrap_i64]
    omega
theorem back_walk (z : Nat) (y : Int) (hy : (z : Int) = y) (h : z < 18446744073709551616) :
    bits .xor .i64 (y / 2) (wrap64 (-wrap64 (bits .and .u64 y 1))) = back z := by
  subst hy
  have e1 : bits .and .u64 (z : Int) 1 = ((z % 2 : Nat) : Int) := by
    rw [show (1 : Int) = ((1 : Nat) : Int) from rfl, u64_and_nat z 1 h (by decide), nat_mask1]
  have e2 : (z : Int) / 2 = IntKind.i64.wrap ((z / 2 : Nat) : Int) := by rw [IntKind.wrap_i64]; omega
  rw [e1, e2, ← i64_wrap64, ← i64_wrap64]
  exact back_prog z h
theorem or_join (a x i : Nat) (ha : a < 128 ^ i) (hx : a + x * 128 ^ i < 18446744073709551616) : bits .or .u64 (a : Int) ((x * 128 ^ i : Nat) : Int) = ((a + x * 128 ^ i : Nat) : Int) := by
  rw [u64_or_nat _ _ (by omega) (by omega)]
  have e : 128 ^ i = 2 ^ (7 * i) := by rw [show (128 : Nat) = 2 ^ 7 from rfl, ← Nat.pow_mul]
  rw [Nat.or_comm, nat_join (7 * i) (x * 128 ^ i) a (by rw [e]; exact Nat.mul_mod_left _ _) (by rw [← e]; exact ha), Nat.add_comm]
theorem p128_9 : (128 : Nat) ^ 9 = 9223372036854775808 := by decide
theorem p128_8 : (128 : Nat) ^ 8 = 72057594037927936 := by decide
theorem or_step9 (acc : Nat) (h : acc < 128 ^ 9) : bits .or .u64 (acc : Int) 9223372036854775808 = ((acc + 1 * 128 ^ 9 : Nat) : Int) := by
  have := or_join acc 1 9 h (by rw [p128_9] at h ⊢; omega)
  rw [← this, Nat.one_mul, p128_9]
  rfl
theorem acc_bd {acc c i : Nat} (h : acc < 128 ^ i) : acc + c % 128 * 128 ^ i < 128 ^ (i + 1) := by
  have h1 : c % 128 * 128 ^ i ≤ 127 * 128 ^ i := Nat.mul_le_mul_right _ (by omega)
  rw [Nat.pow_succ]
  omega
theorem or_stepI (acc c i : Nat) (x : Int) (hx : (c : Int) = x) (hi : i < 9) (h : acc < 128 ^ i) : bits .or .u64 (acc : Int) (IntKind.u64.wrap (x % 128 * 2 ^ (i * 7))) = ((acc + c % 128 * 128 ^ i : Nat) : Int) := by
  subst hx
  have hb := acc_bd (c := c) h
  have hp : 128 ^ (i + 1) ≤ 128 ^ 9 := Nat.pow_le_pow_right (by omega) (by omega)
  rw [p128_9] at hp
  have e : (c : Int) % 128 * 2 ^ (i * 7) = ((c % 128 * 128 ^ i : Nat) : Int) := by
    have e2 : (128 : Nat) ^ i = 2 ^ (i * 7) := by rw [show (128 : Nat) = 2 ^ 7 from rfl, ← Nat.pow_mul, Nat.mul_comm]
    rw [e2]
    push_cast
    rfl
  rw [e, IntWalk.u64_in _ (by omega)]
  exact or_join acc (c % 128) i h (by omega)
theorem or_step0 (acc c : Nat) (x : Int) (hx : (c : Int) = x) (h : acc < 128 ^ 0) : bits .or .u64 (acc : Int) (x % 128) = ((acc + c % 128 * 128 ^ 0 : Nat) : Int) := by
  subst hx
  have h1 : acc = 0 := by simpa using h
  subst h1
  rw [show (c : Int) % 128 = ((c % 128 : Nat) : Int) by omega, u64_or_nat 0 _ (by decide) (by omega)]
  simp
end Go.Proofs.Ytgcgifjfgmhhmaa
