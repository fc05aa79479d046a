/- The contract of hash's mixing. -/
import Derived.Test.YtgcgifjfgmhhmaaBas
namespace Go.Proofs.Ytgcgifjfgmhhmaa
open Go.RowKit
theorem mix_any (a b : Int) (x y : BitVec 64) (w : World) (ha : a = x.toNat) (hb : b = y.toNat) :
    Calls Try.prog 67 #[.int .u64 a, .int .u64 b] w fun e w' => e = .returned (.int .u64 (mx x y).toNat) ∧ w = w' := by
  have h1 := x.isLt
  have h2 := y.isLt
  rw [two64] at h1 h2
  rw [← bits_mx, ← ha, ← hb]
  have h3 : 0 ≤ a ∧ a < 18446744073709551616 := by omega
  have h4 : 0 ≤ b ∧ b < 18446744073709551616 := by omega
  clear h1 h2 ha hb
  obtain ⟨h31, h32⟩ := h3
  obtain ⟨h41, h42⟩ := h4
  go_enter Try.func67, Try.ntmps67
  go_wp2
  go_ret
  exact ⟨rfl, rfl⟩
end Go.Proofs.Ytgcgifjfgmhhmaa
