/- Contracts of the leading zeros of a word, and of the guess of a quotient's digit. -/
import Derived.Test.YtpcliampffeknaaNP8
namespace Go.Proofs.Ytpcliampffeknaa
open Go.RowKit
attribute [local go_sem ↓] Go.wp_at_zero Go.wp_at_succ

set_option maxRecDepth 100000 in
theorem tab_fin : ∀ i : Fin 256, i.val < 2 ^ ((({ data := #[0, 1, 2, 2, 3, 3, 3, 3, 4, 4, 4, 4, 4, 4, 4, 4, 5, 5, 5, 5, 5, 5, 5, 5, 5, 5, 5, 5, 5, 5, 5, 5, 6, 6, 6, 6, 6, 6, 6, 6, 6, 6, 6, 6, 6, 6, 6, 6, 6, 6, 6, 6, 6, 6, 6, 6, 6, 6, 6, 6, 6, 6, 6, 6, 7, 7, 7, 7, 7, 7, 7, 7, 7, 7, 7, 7, 7, 7, 7, 7, 7, 7, 7, 7, 7, 7, 7, 7, 7, 7, 7, 7, 7, 7, 7, 7, 7, 7, 7, 7, 7, 7, 7, 7, 7, 7, 7, 7, 7, 7, 7, 7, 7, 7, 7, 7, 7, 7, 7, 7, 7, 7, 7, 7, 7, 7, 7, 7, 8, 8, 8, 8, 8, 8, 8, 8, 8, 8, 8, 8, 8, 8, 8, 8, 8, 8, 8, 8, 8, 8, 8, 8, 8, 8, 8, 8, 8, 8, 8, 8, 8, 8, 8, 8, 8, 8, 8, 8, 8, 8, 8, 8, 8, 8, 8, 8, 8, 8, 8, 8, 8, 8, 8, 8, 8, 8, 8, 8, 8, 8, 8, 8, 8, 8, 8, 8, 8, 8, 8, 8, 8, 8, 8, 8, 8, 8, 8, 8, 8, 8, 8, 8, 8, 8, 8, 8, 8, 8, 8, 8, 8, 8, 8, 8, 8, 8, 8, 8, 8, 8, 8, 8, 8, 8, 8, 8, 8, 8, 8, 8, 8, 8, 8, 8, 8, 8, 8, 8, 8, 8, 8, 8, 8, 8, 8, 8] } : ByteArray))[i.val]'(i.isLt)).toNat ∧ ((({ data := #[0, 1, 2, 2, 3, 3, 3, 3, 4, 4, 4, 4, 4, 4, 4, 4, 5, 5, 5, 5, 5, 5, 5, 5, 5, 5, 5, 5, 5, 5, 5, 5, 6, 6, 6, 6, 6, 6, 6, 6, 6, 6, 6, 6, 6, 6, 6, 6, 6, 6, 6, 6, 6, 6, 6, 6, 6, 6, 6, 6, 6, 6, 6, 6, 7, 7, 7, 7, 7, 7, 7, 7, 7, 7, 7, 7, 7, 7, 7, 7, 7, 7, 7, 7, 7, 7, 7, 7, 7, 7, 7, 7, 7, 7, 7, 7, 7, 7, 7, 7, 7, 7, 7, 7, 7, 7, 7, 7, 7, 7, 7, 7, 7, 7, 7, 7, 7, 7, 7, 7, 7, 7, 7, 7, 7, 7, 7, 7, 8, 8, 8, 8, 8, 8, 8, 8, 8, 8, 8, 8, 8, 8, 8, 8, 8, 8, 8, 8, 8, 8, 8, 8, 8, 8, 8, 8, 8, 8, 8, 8, 8, 8, 8, 8, 8, 8, 8, 8, 8, 8, 8, 8, 8, 8, 8, 8, 8, 8, 8, 8, 8, 8, 8, 8, 8, 8, 8, 8, 8, 8, 8, 8, 8, 8, 8, 8, 8, 8, 8, 8, 8, 8, 8, 8, 8, 8, 8, 8, 8, 8, 8, 8, 8, 8, 8, 8, 8, 8, 8, 8, 8, 8, 8, 8, 8, 8, 8, 8, 8, 8, 8, 8, 8, 8, 8, 8, 8, 8, 8, 8, 8, 8, 8, 8, 8, 8, 8, 8, 8, 8, 8, 8, 8, 8, 8, 8] } : ByteArray))[i.val]'(i.isLt)).toNat ≤ 8 ∧ (0 < i.val → 1 ≤ ((({ data := #[0, 1, 2, 2, 3, 3, 3, 3, 4, 4, 4, 4, 4, 4, 4, 4, 5, 5, 5, 5, 5, 5, 5, 5, 5, 5, 5, 5, 5, 5, 5, 5, 6, 6, 6, 6, 6, 6, 6, 6, 6, 6, 6, 6, 6, 6, 6, 6, 6, 6, 6, 6, 6, 6, 6, 6, 6, 6, 6, 6, 6, 6, 6, 6, 7, 7, 7, 7, 7, 7, 7, 7, 7, 7, 7, 7, 7, 7, 7, 7, 7, 7, 7, 7, 7, 7, 7, 7, 7, 7, 7, 7, 7, 7, 7, 7, 7, 7, 7, 7, 7, 7, 7, 7, 7, 7, 7, 7, 7, 7, 7, 7, 7, 7, 7, 7, 7, 7, 7, 7, 7, 7, 7, 7, 7, 7, 7, 7, 8, 8, 8, 8, 8, 8, 8, 8, 8, 8, 8, 8, 8, 8, 8, 8, 8, 8, 8, 8, 8, 8, 8, 8, 8, 8, 8, 8, 8, 8, 8, 8, 8, 8, 8, 8, 8, 8, 8, 8, 8, 8, 8, 8, 8, 8, 8, 8, 8, 8, 8, 8, 8, 8, 8, 8, 8, 8, 8, 8, 8, 8, 8, 8, 8, 8, 8, 8, 8, 8, 8, 8, 8, 8, 8, 8, 8, 8, 8, 8, 8, 8, 8, 8, 8, 8, 8, 8, 8, 8, 8, 8, 8, 8, 8, 8, 8, 8, 8, 8, 8, 8, 8, 8, 8, 8, 8, 8, 8, 8, 8, 8, 8, 8, 8, 8, 8, 8, 8, 8, 8, 8, 8, 8, 8, 8, 8, 8] } : ByteArray))[i.val]'(i.isLt)).toNat) := by decide +kernel
set_option maxRecDepth 100000 in
theorem tab_at (k : Nat) (h : k < 256) : ∃ t : Nat, ((({ data := #[0, 1, 2, 2, 3, 3, 3, 3, 4, 4, 4, 4, 4, 4, 4, 4, 5, 5, 5, 5, 5, 5, 5, 5, 5, 5, 5, 5, 5, 5, 5, 5, 6, 6, 6, 6, 6, 6, 6, 6, 6, 6, 6, 6, 6, 6, 6, 6, 6, 6, 6, 6, 6, 6, 6, 6, 6, 6, 6, 6, 6, 6, 6, 6, 7, 7, 7, 7, 7, 7, 7, 7, 7, 7, 7, 7, 7, 7, 7, 7, 7, 7, 7, 7, 7, 7, 7, 7, 7, 7, 7, 7, 7, 7, 7, 7, 7, 7, 7, 7, 7, 7, 7, 7, 7, 7, 7, 7, 7, 7, 7, 7, 7, 7, 7, 7, 7, 7, 7, 7, 7, 7, 7, 7, 7, 7, 7, 7, 8, 8, 8, 8, 8, 8, 8, 8, 8, 8, 8, 8, 8, 8, 8, 8, 8, 8, 8, 8, 8, 8, 8, 8, 8, 8, 8, 8, 8, 8, 8, 8, 8, 8, 8, 8, 8, 8, 8, 8, 8, 8, 8, 8, 8, 8, 8, 8, 8, 8, 8, 8, 8, 8, 8, 8, 8, 8, 8, 8, 8, 8, 8, 8, 8, 8, 8, 8, 8, 8, 8, 8, 8, 8, 8, 8, 8, 8, 8, 8, 8, 8, 8, 8, 8, 8, 8, 8, 8, 8, 8, 8, 8, 8, 8, 8, 8, 8, 8, 8, 8, 8, 8, 8, 8, 8, 8, 8, 8, 8, 8, 8, 8, 8, 8, 8, 8, 8, 8, 8, 8, 8, 8, 8, 8, 8, 8, 8] } : ByteArray))[k]'h).toNat = t ∧ k < 2 ^ t ∧ t ≤ 8 ∧ (0 < k → 1 ≤ t) := ⟨_, rfl, tab_fin ⟨k, h⟩⟩
theorem len_end {x y : Int} {k t a b : Nat} (hx : y = (k : Int)) (hk : k < 2 ^ t) (ht : t ≤ 8) (h1 : 0 < k → 1 ≤ t) (hb : b = 2 ^ a) (ha : a ≤ 24) (hy : x < b * y + b) (hp : 0 < x → 1 ≤ a ∨ 0 < y) :
    ∃ s : Nat, Ending.returned (.int .i64 (wrap64 ((a : Int) + wrap64 (t : Int)))) = .returned (.int .i64 (s : Int)) ∧ x < 2 ^ s ∧ s ≤ 32 ∧ (0 < x → 1 ≤ s) := by
  refine ⟨a + t, ?_, ?_, by omega, ?_⟩
  · rw [show wrap64 (t : Int) = (t : Int) by unfold wrap64; omega, show wrap64 ((a : Int) + (t : Int)) = ((a + t : Nat) : Int) by unfold wrap64; omega]
  · have h : (b : Int) * y + b ≤ ((2 ^ (a + t) : Nat) : Int) := by
      rw [Nat.pow_add, ← hb, hx]
      have := Nat.mul_le_mul_left b hk
      rw [Nat.mul_succ] at this
      have e : ((b * k + b : Nat) : Int) ≤ ((b * 2 ^ t : Nat) : Int) := by omega
      rw [Int.natCast_add, Int.natCast_mul] at e
      exact e
    have e : ((2 ^ (a + t) : Nat) : Int) = (2 : Int) ^ (a + t) := by rw [Int.natCast_pow]; rfl
    rw [← e]
    omega
  · intro hx0
    rcases hp hx0 with h | h
    · omega
    · have := h1 (by omega); omega
set_option maxRecDepth 100000 in
set_option maxHeartbeats 1600000 in
theorem len32_0 (x : Int) (w : World) (h0 : 0 ≤ x) (h1 : x < 4294967296) (ha1 : 65536 ≤ x) (hb1 : 256 ≤ x / 65536) :
    Calls Try.prog 81 #[.int .u32 x] w fun e w' => (∃ t : Nat, e = .returned (.int .i64 (t : Int)) ∧ x < 2 ^ t ∧ t ≤ 32 ∧ (0 < x → 1 ≤ t)) ∧ w = w' := by
  have hc1 : 0 ≤ x / 65536 / 256 := by omega
  have hc2 : x / 65536 / 256 < 256 := by omega
  have HT := Lib.hid (tab_at (x / 65536 / 256).toNat (by omega))
  have HE := Lib.hid (fun (t : Nat) (g1 : (x / 65536 / 256).toNat < 2 ^ t) (g2 : t ≤ 8) (g3 : 0 < (x / 65536 / 256).toNat → 1 ≤ t) => len_end (x := x) (y := x / 65536 / 256) (k := (x / 65536 / 256).toNat) (t := t) (a := 24) (b := 16777216) (by omega) g1 g2 g3 (by decide) (by decide) (by omega) (by omega))
  go_enter Try.func81, Try.ntmps81
  go_wp2
  go_ret
  obtain ⟨t, e1, e2, e3, e4⟩ := HT.out
  have := HE.out t e2 e3 e4
  refine ⟨?_, rfl⟩
  rw [← e1] at this
  exact this
set_option maxRecDepth 100000 in
set_option maxHeartbeats 1600000 in
theorem len32_1 (x : Int) (w : World) (h0 : 0 ≤ x) (h1 : x < 4294967296) (ha1 : 65536 ≤ x) (hb1 : ¬ 256 ≤ x / 65536) :
    Calls Try.prog 81 #[.int .u32 x] w fun e w' => (∃ t : Nat, e = .returned (.int .i64 (t : Int)) ∧ x < 2 ^ t ∧ t ≤ 32 ∧ (0 < x → 1 ≤ t)) ∧ w = w' := by
  have hc1 : 0 ≤ x / 65536 := by omega
  have hc2 : x / 65536 < 256 := by omega
  have HT := Lib.hid (tab_at (x / 65536).toNat (by omega))
  have HE := Lib.hid (fun (t : Nat) (g1 : (x / 65536).toNat < 2 ^ t) (g2 : t ≤ 8) (g3 : 0 < (x / 65536).toNat → 1 ≤ t) => len_end (x := x) (y := x / 65536) (k := (x / 65536).toNat) (t := t) (a := 16) (b := 65536) (by omega) g1 g2 g3 (by decide) (by decide) (by omega) (by omega))
  go_enter Try.func81, Try.ntmps81
  go_wp2
  go_ret
  obtain ⟨t, e1, e2, e3, e4⟩ := HT.out
  have := HE.out t e2 e3 e4
  refine ⟨?_, rfl⟩
  rw [← e1] at this
  exact this
set_option maxRecDepth 100000 in
set_option maxHeartbeats 1600000 in
theorem len32_2 (x : Int) (w : World) (h0 : 0 ≤ x) (h1 : x < 4294967296) (ha1 : ¬ 65536 ≤ x) (hb1 : 256 ≤ x) :
    Calls Try.prog 81 #[.int .u32 x] w fun e w' => (∃ t : Nat, e = .returned (.int .i64 (t : Int)) ∧ x < 2 ^ t ∧ t ≤ 32 ∧ (0 < x → 1 ≤ t)) ∧ w = w' := by
  have hc1 : 0 ≤ x / 256 := by omega
  have hc2 : x / 256 < 256 := by omega
  have HT := Lib.hid (tab_at (x / 256).toNat (by omega))
  have HE := Lib.hid (fun (t : Nat) (g1 : (x / 256).toNat < 2 ^ t) (g2 : t ≤ 8) (g3 : 0 < (x / 256).toNat → 1 ≤ t) => len_end (x := x) (y := x / 256) (k := (x / 256).toNat) (t := t) (a := 8) (b := 256) (by omega) g1 g2 g3 (by decide) (by decide) (by omega) (by omega))
  go_enter Try.func81, Try.ntmps81
  go_wp2
  go_ret
  obtain ⟨t, e1, e2, e3, e4⟩ := HT.out
  have := HE.out t e2 e3 e4
  refine ⟨?_, rfl⟩
  rw [← e1] at this
  exact this
set_option maxRecDepth 100000 in
set_option maxHeartbeats 1600000 in
theorem len32_3 (x : Int) (w : World) (h0 : 0 ≤ x) (h1 : x < 4294967296) (ha1 : ¬ 65536 ≤ x) (hb1 : ¬ 256 ≤ x) :
    Calls Try.prog 81 #[.int .u32 x] w fun e w' => (∃ t : Nat, e = .returned (.int .i64 (t : Int)) ∧ x < 2 ^ t ∧ t ≤ 32 ∧ (0 < x → 1 ≤ t)) ∧ w = w' := by
  have hc1 : 0 ≤ x := by omega
  have hc2 : x < 256 := by omega
  have HT := Lib.hid (tab_at (x).toNat (by omega))
  have HE := Lib.hid (fun (t : Nat) (g1 : (x).toNat < 2 ^ t) (g2 : t ≤ 8) (g3 : 0 < (x).toNat → 1 ≤ t) => len_end (x := x) (y := x) (k := (x).toNat) (t := t) (a := 0) (b := 1) (by omega) g1 g2 g3 (by decide) (by decide) (by omega) (by omega))
  go_enter Try.func81, Try.ntmps81
  go_wp2
  go_ret
  obtain ⟨t, e1, e2, e3, e4⟩ := HT.out
  have := HE.out t e2 e3 e4
  refine ⟨?_, rfl⟩
  rw [← e1] at this
  rw [show ((0 : Nat) : Int) = 0 from rfl, Int.zero_add] at this
  exact this
theorem len32_any (x : Int) (w : World) (h0 : 0 ≤ x) (h1 : x < 4294967296) :
    Calls Try.prog 81 #[.int .u32 x] w fun e w' => (∃ t : Nat, e = .returned (.int .i64 (t : Int)) ∧ x < 2 ^ t ∧ t ≤ 32 ∧ (0 < x → 1 ≤ t)) ∧ w = w' := by
  by_cases ha : 65536 ≤ x
  · by_cases hb : 256 ≤ x / 65536
    · exact len32_0 x w h0 h1 ha hb
    · exact len32_1 x w h0 h1 ha hb
  · by_cases hb : 256 ≤ x
    · exact len32_2 x w h0 h1 ha hb
    · exact len32_3 x w h0 h1 ha hb
/-- The shift that brings a word's highest bit to the front: the word times 2 to it is no more than a word. -/
theorem lz32_any (x : Nat) (w : World) (h0 : 0 < x) (h1 : x < 4294967296) :
    Calls Try.prog 71 #[.int .u32 (x : Int)] w fun e w' => (∃ z : Nat, e = .returned (.int .i64 (z : Int)) ∧ z ≤ 31 ∧ (x + 1) * 2 ^ z ≤ 4294967296) ∧ w = w' := by
  have HX := Lib.hid h0
  go_enter Try.func71, Try.ntmps71
  go_wp2_with fail
  refine (len32_any (x : Int) w (by omega) (by omega)).mono ?_
  rintro e w' ⟨⟨t, rfl, hlt, ht, hp⟩, rfl⟩
  have ht1 : 1 ≤ t := hp (by have := HX.out; omega)
  have HT := Lib.hid hlt
  clear hlt hp
  go_wp2
  go_ret
  refine ⟨⟨32 - t, ret_int (by omega), by omega, ?_⟩, rfl⟩
  have h2 : x + 1 ≤ 2 ^ t := by
    have := HT.out
    have e : ((2 ^ t : Nat) : Int) = (2 : Int) ^ t := by rw [Int.natCast_pow]; rfl
    rw [← e] at this
    omega
  have h3 := Nat.mul_le_mul_right (2 ^ (32 - t)) h2
  rw [← Nat.pow_add, show t + (32 - t) = 32 by omega] at h3
  exact h3
end Go.Proofs.Ytpcliampffeknaa
