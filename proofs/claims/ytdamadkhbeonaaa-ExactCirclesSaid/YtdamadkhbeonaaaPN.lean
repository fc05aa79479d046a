/- Contracts of the program's points: ValidBox; the reference's Good. Conditions: as each statement has them. -/
import Derived.Test.YtdamadkhbeonaaaPB
namespace Go.Proofs.Ytdamadkhbeonaaa
open Go.RowKit
attribute [local go_sem ↓] Go.wp_at_zero Go.wp_at_succ
set_option maxRecDepth 100000 in
set_option maxHeartbeats 3200000 in
theorem good_any (x y : Int) (w : World) :
  Calls Try.prog 12 #[.agg #[.int .i64 x, .int .i64 y]] w fun e w' => e = .returned (.int .i64 (vdC x y)) ∧ Below w.heap.size w w' := by
 obtain ⟨W, hW⟩ : ∃ W, w.alloc (.cells #[.int .i64 x, .int .i64 y] 25) = W := ⟨_, rfl⟩
 have HK := hJ (show Below w.heap.size w W by rw [← hW]; exact (Below.refl _ w).alloc (Nat.le_refl _) _)
 have HA := hJ (show P2 25 W w.heap.size (.int .i64 x) (.int .i64 y) by rw [← hW]; exact P2.lit _ _ _ _)
 obtain ⟨a0, a1⟩ := HA.out.cells
 by_cases h1 : x < -1073741824
 ·have HV := hJ (show vdC x y = 5 from if_neg (by omega))
  go_enter Try.func12, Try.ntmps12
  go_wp2
  go_ret
  exact ⟨by rw [HV.out]; rfl, HK.out⟩
 by_cases h2 : 1073741824 < x
 ·have HV := hJ (show vdC x y = 5 from if_neg (by omega))
  go_enter Try.func12, Try.ntmps12
  go_wp2
  go_ret
  exact ⟨by rw [HV.out]; rfl, HK.out⟩
 by_cases h3 : y < -1073741824
 ·have HV := hJ (show vdC x y = 5 from if_neg (by omega))
  go_enter Try.func12, Try.ntmps12
  go_wp2
  go_ret
  exact ⟨by rw [HV.out]; rfl, HK.out⟩
 by_cases h4 : 1073741824 < y
 ·have HV := hJ (show vdC x y = 5 from if_neg (by omega))
  go_enter Try.func12, Try.ntmps12
  go_wp2
  go_ret
  exact ⟨by rw [HV.out]; rfl, HK.out⟩
 ·have HV := hJ (show vdC x y = 0 from if_pos (by omega))
  go_enter Try.func12, Try.ntmps12
  go_wp2
  go_ret
  exact ⟨by rw [HV.out]; rfl, HK.out⟩
end Go.Proofs.Ytdamadkhbeonaaa
