/- Contracts of the reference's points: Around, Grid, Scaled; of the program's: notGreater over fractions, In, Meets. Conditions: as each statement has them. -/
import Derived.Test.YtdamadkhbeonaaaFF
import Derived.Test.YtdamadkhbeonaaaPB
namespace Go.Proofs.Ytdamadkhbeonaaa
open Go.RowKit
attribute [local go_sem ↓] Go.wp_at_zero Go.wp_at_succ
/-- n modulo most, never negative. -/
def aroundZ (v n : Int) : Int := (if v < 0 then -(v + 1) else v) % n
theorem aroundZ_in (v : Int) {n : Int} (h : 1 ≤ n) : 0 ≤ aroundZ v n ∧ aroundZ v n < n := ⟨Int.emod_nonneg _ (by omega), Int.emod_lt_of_pos _ (by omega)⟩
theorem i64_in {x : Int} (h : (Lit.int .i64 x).wf = true) : -9223372036854775808 ≤ x ∧ x ≤ 9223372036854775807 := by simpa [Lit.wf, IntKind.min, IntKind.max, IntKind.signed, IntKind.bits] using h
theorem aroundz_any (v n : Int) (w : World) (h1 : 1 ≤ n) (hn : n ≤ 1099511627776) (hv : (Lit.int .i64 v).wf = true) :
  Calls Try.prog 7 #[.int .i64 v, .int .i64 n] w fun e w' => e = .returned (.int .i64 (aroundZ v n)) ∧ w = w' := by
 obtain ⟨hb1, hb2⟩ := i64_in hv
 unfold aroundZ
 clear hv
 by_cases h : v < 0
 ·rw [if_pos h, ← Int.tmod_eq_emod_of_nonneg (show 0 ≤ -(v + 1) by omega), Int.neg_tmod]
  go_enter Try.func7, Try.ntmps7
  go_wp2
  go_ret
  exact ⟨rfl, rfl⟩
 ·rw [if_neg h]
  have h0 : 0 ≤ v := by omega
  go_enter Try.func7, Try.ntmps7
  go_wp2
  go_ret
  exact ⟨rfl, rfl⟩
theorem G_size : (Try.prog.info? 25).map (·.size) = some 2 := by kernel_rfl
/-- A coordinate of Grid. -/
def Co (x : Int) : Prop := 0 ≤ x ∧ x ≤ 32
set_option maxRecDepth 100000 in
set_option maxHeartbeats 6400000 in
theorem grid_any (n : Int) (w : World) (hn : (Lit.int .i64 n).wf = true) :
  Calls Try.prog 5 #[.int .i64 n] w fun e w' => ∃ x y, e = .returned (.agg #[.int .i64 x, .int .i64 y]) ∧ Co x ∧ Co y ∧ Below w.heap.size w w' := by
 have HN := hJ hn
 clear hn
 obtain ⟨W, hW⟩ : ∃ W, w.alloc (.cells #[.int .i64 0, .int .i64 0] 25) = W := ⟨_, rfl⟩
 have HK := hJ (show Below w.heap.size w W by rw [← hW]; exact (Below.refl _ w).alloc (Nat.le_refl _) _)
 have HZ := hJ (show P2 25 W w.heap.size (.int .i64 0) (.int .i64 0) by rw [← hW]; exact P2.lit _ _ _ _)
 obtain ⟨z0, z1⟩ := HZ.out.cells
 have f0 := HZ.out.frozen 0
 have f1 := HZ.out.frozen 1
 go_enter Try.func5, Try.ntmps5
 go_wp2_with fail
 refine (aroundz_any n 1048576 W (by decide) (by decide) HN.out).mono ?_
 rintro e w1 ⟨rfl, rfl⟩
 obtain ⟨k, hk⟩ : ∃ k, aroundZ n 1048576 = k := ⟨_, rfl⟩
 obtain ⟨hk0, hk1⟩ := aroundZ_in n (n := 1048576) (by decide)
 rw [hk] at hk0 hk1 ⊢
 clear hk
 by_cases h3 : k % 3 = 0
 ·have e1 : IntKind.i64.wrap (k / 3) = k / 3 := IntWalk.i64_in _ (by omega)
  have e2 : IntKind.i64.wrap (k / 15) = k / 15 := IntWalk.i64_in _ (by omega)
  have e3 : IntKind.i64.wrap (k / 3 % 5) = k / 3 % 5 := IntWalk.i64_in _ (by omega)
  have e4 : IntKind.i64.wrap (k / 15 % 5) = k / 15 % 5 := IntWalk.i64_in _ (by omega)
  have g1 : 0 ≤ k / 3 := by omega
  have g2 : 0 ≤ k / 15 := by omega
  have e5 : IntKind.i64.wrap (8 * (k / 3 % 5)) = 8 * (k / 3 % 5) := IntWalk.i64_in _ (by omega)
  have e6 : IntKind.i64.wrap (8 * (k / 15 % 5)) = 8 * (k / 15 % 5) := IntWalk.i64_in _ (by omega)
  have e7 : (k % 3 == 0) = true := by simp [h3]
  have HR := hJ (show Co (8 * (k / 3 % 5)) ∧ Co (8 * (k / 15 % 5)) from ⟨⟨by omega, by omega⟩, by omega, by omega⟩)
  clear h3
  go_wp2
  exact bodyPost_ret (results_cell_row rfl _ _ _ _ _ _ _ rfl (HZ.out.all (.int .i64 (8 * (k / 3 % 5))) (.int .i64 (8 * (k / 15 % 5)))) Try.underlying25 rfl G_size) rfl ⟨_, _, rfl, HR.out.1, HR.out.2, below_box HK.out (by omega) _ _⟩
 ·have e1 : IntKind.i64.wrap (k / 3) = k / 3 := IntWalk.i64_in _ (by omega)
  have e2 : IntKind.i64.wrap (k / 99) = k / 99 := IntWalk.i64_in _ (by omega)
  have e3 : IntKind.i64.wrap (k / 3 % 33) = k / 3 % 33 := IntWalk.i64_in _ (by omega)
  have e4 : IntKind.i64.wrap (k / 99 % 33) = k / 99 % 33 := IntWalk.i64_in _ (by omega)
  have g1 : 0 ≤ k / 3 := by omega
  have g2 : 0 ≤ k / 99 := by omega
  have e7 : (k % 3 == 0) = false := by simp [h3]
  have HR := hJ (show Co (k / 3 % 33) ∧ Co (k / 99 % 33) from ⟨⟨by omega, by omega⟩, by omega, by omega⟩)
  clear h3
  go_wp2
  exact bodyPost_ret (results_cell_row rfl _ _ _ _ _ _ _ rfl (HZ.out.all (.int .i64 (k / 3 % 33)) (.int .i64 (k / 99 % 33))) Try.underlying25 rfl G_size) rfl ⟨_, _, rfl, HR.out.1, HR.out.2, below_box HK.out (by omega) _ _⟩
end Go.Proofs.Ytdamadkhbeonaaa
