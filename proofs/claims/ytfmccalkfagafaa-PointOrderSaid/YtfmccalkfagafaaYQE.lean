/- Contracts of the reference's points: Some; the law's real; sign, Compare, In, Meets. Conditions: as each statement has them. -/
import Derived.Test.YtfmccalkfagafaaYQD
namespace Go.Proofs.Ytfmccalkfagafaa
open Go.RowKit
attribute [local go_sem ↓] Go.wp_at_zero Go.wp_at_succ
/-- A point of the law's own: small numbers in lowest terms. -/
def Sm (X Y D : Int) : Prop := (0 < D ∧ D ≤ 12) ∧ (-400 ≤ X ∧ X ≤ 400) ∧ (-400 ≤ Y ∧ Y ≤ 400) ∧ (D ∣ X → D ∣ Y → D = 1)
theorem mul_abs_le {g X : Int} (hg : 0 < g) : X.natAbs ≤ (g * X).natAbs := by rw [Int.natAbs_mul]; exact Nat.le_mul_of_pos_left _ (by omega)
theorem sm_of {x y d X Y D : Int} (h : MkR x y d X Y D) (hD : 0 < D) (hx : -400 ≤ x ∧ x ≤ 400) (hy : -400 ≤ y ∧ y ≤ 400) (hd : d ≤ 12) (hd0 : 0 < d) : Sm X Y D := by
  obtain ⟨g, hg, rfl, rfl, rfl, hl⟩ := h
  have h1 := mul_abs_le (X := X) hg
  have h2 := mul_abs_le (X := Y) hg
  have h3 := mul_abs_le (X := D) hg
  exact ⟨⟨hD, by omega⟩, ⟨by omega, by omega⟩, ⟨by omega, by omega⟩, hl⟩
theorem dens_lit (w : World) (t : TypeId) (j : Nat) (hj : j < 8) : ∃ d : Int, (w.alloc (.cells #[.int .i64 1, .int .i64 1, .int .i64 1, .int .i64 2, .int .i64 2, .int .i64 3, .int .i64 5, .int .i64 12] t)).cell? ⟨w.heap.size, j, none⟩ = some (.int .i64 d) ∧ (1 ≤ d ∧ d ≤ 12) := by
  have hh := heap_alloc_new w (.cells #[.int .i64 1, .int .i64 1, .int .i64 1, .int .i64 2, .int .i64 2, .int .i64 3, .int .i64 5, .int .i64 12] t)
  match j, hj with
  | 0, _ => exact ⟨1, (cell_of_row _ _ _ _ t (0, 0) hh).trans rfl, by decide⟩
  | 1, _ => exact ⟨1, (cell_of_row _ _ _ _ t (0, 0) hh).trans rfl, by decide⟩
  | 2, _ => exact ⟨1, (cell_of_row _ _ _ _ t (0, 0) hh).trans rfl, by decide⟩
  | 3, _ => exact ⟨2, (cell_of_row _ _ _ _ t (0, 0) hh).trans rfl, by decide⟩
  | 4, _ => exact ⟨2, (cell_of_row _ _ _ _ t (0, 0) hh).trans rfl, by decide⟩
  | 5, _ => exact ⟨3, (cell_of_row _ _ _ _ t (0, 0) hh).trans rfl, by decide⟩
  | 6, _ => exact ⟨5, (cell_of_row _ _ _ _ t (0, 0) hh).trans rfl, by decide⟩
  | 7, _ => exact ⟨12, (cell_of_row _ _ _ _ t (0, 0) hh).trans rfl, by decide⟩
theorem P2.far3 {t : TypeId} {w : World} {b : Nat} {x0 x1 : Value} (h : P2 t w b x0 x1) {g : Nat} (hg : b ≠ g) (u0 u1 u2 : Value) : P2 t (((w.setCell ⟨g, 0, none⟩ u0).setCell ⟨g, 1, none⟩ u1).setCell ⟨g, 2, none⟩ u2) b x0 x1 := ((h.far (p := ⟨g, 0, none⟩) hg u0).far (p := ⟨g, 1, none⟩) hg u1).far (p := ⟨g, 2, none⟩) hg u2
set_option maxRecDepth 100000 in
set_option maxHeartbeats 6400000 in
theorem some_any (n : Int) (w : World) (hn : (Lit.int .i64 n).wf = true) :
    Calls Try.prog 8 #[.int .i64 n] w fun e w' => ∃ X Y D, e = .returned (.agg #[.int .i64 X, .int .i64 Y, .int .i64 D]) ∧ Sm X Y D ∧ Below w.heap.size w w' := by
  have HN := Lib.hid hn
  clear hn
  obtain ⟨W, hW⟩ : ∃ W, w.alloc (.cells #[.int .i64 0, .int .i64 0, .int .i64 0] 23) = W := ⟨_, rfl⟩
  have HK := Lib.hid (show Below w.heap.size w W by rw [← hW]; exact (Below.refl _ w).alloc (Nat.le_refl _) _)
  have HZ := Lib.hid (show P3 23 W w.heap.size (.int .i64 0) (.int .i64 0) (.int .i64 0) by rw [← hW]; exact P3.lit _ _ _ _ _)
  obtain ⟨h, hh⟩ : ∃ h, w.heap.size = h := ⟨_, rfl⟩
  rw [hh] at HZ
  have HH := Lib.hid hh
  go_enter Try.func8, Try.ntmps8
  go_wp2_with fail
  clear hh
  refine (aroundz_any n 1048576 W (by decide) (by decide) HN.out).mono ?_
  rintro e w1 ⟨rfl, rfl⟩
  obtain ⟨hk0, hk1⟩ := aroundZ_in n (n := 1048576) (by decide)
  obtain ⟨k, hk⟩ : ∃ k, aroundZ n 1048576 = k := ⟨_, rfl⟩
  rw [hk] at hk0 hk1 ⊢
  have HKK := Lib.hid (And.intro hk0 hk1)
  clear hk
  have e1 : IntKind.i64.wrap (k / 8) = k / 8 := IntWalk.i64_in _ (by omega)
  go_wp2_with fail
  clear hW
  refine (grid_any (k / 8) W (WalkArith.wf_i64 (by omega))).mono ?_
  rintro e w2 ⟨px, py, rfl, cx, cy, hb2⟩
  have HC := Lib.hid (And.intro cx cy)
  have HBQ2 := Lib.hid hb2
  have HZ0 := Lib.hid HZ.out
  obtain ⟨w3, hw3⟩ : ∃ z, w2.alloc (.cells #[.int .i64 px, .int .i64 py] 44) = z := ⟨_, rfl⟩
  have HQ := Lib.hid (show P2 44 w3 w2.heap.size (.int .i64 px) (.int .i64 py) by rw [← hw3]; exact P2.lit _ _ _ _)
  have HB3 := Lib.hid (show Below W.heap.size W w3 by rw [← hw3]; exact bt hb2 ((Below.refl _ _).alloc (Nat.le_refl _) _))
  obtain ⟨w4, hw4⟩ : ∃ z, w3.alloc (.cells #[.int .i64 1, .int .i64 1, .int .i64 1, .int .i64 2, .int .i64 2, .int .i64 3, .int .i64 5, .int .i64 12] 3) = z := ⟨_, rfl⟩
  obtain ⟨j, hj⟩ : ∃ j : Nat, k % 8 = (j : Int) := ⟨(k % 8).toNat, by omega⟩
  have hj8 : j < 8 := by omega
  obtain ⟨d, hd, hd1⟩ := dens_lit w3 3 j hj8
  rw [hw4] at hd
  have HQ4 := Lib.hid (show P2 44 w4 w2.heap.size (.int .i64 px) (.int .i64 py) by rw [← hw4]; exact HQ.out.new ((Below.refl _ _).alloc (Nat.le_refl _) _))
  have HB4 := Lib.hid (show Below W.heap.size W w4 by rw [← hw4]; exact bt HB3.out ((Below.refl _ _).alloc (Nat.le_refl _) _))
  have HZ4 := Lib.hid (HZ.out.new HB4.out)
  have HBW := Lib.hid (bt HK.out HB4.out)
  have HD := Lib.hid hd1
  clear cx cy hb2 HQ HB3 HZ hd1 HB4
  have hj0 : (0 : Int) ≤ (j : Int) := by omega
  have hj9 : (j : Int) < 8 := by omega
  have hj7 : IntKind.i64.wrap (j : Int) = (j : Int) := IntWalk.i64_in _ (by omega)
  obtain ⟨gq, hgq⟩ : ∃ g, w2.heap.size = g := ⟨_, rfl⟩
  rw [hgq] at HQ4
  have HNE := Lib.hid (show gq ≠ h by have h9 := HBQ2.out.size; have h8 := HZ0.out.lt; omega)
  by_cases h1 : d = 1
  · subst h1
    obtain ⟨a0, a1⟩ := HQ4.out.cells
    go_wp2_with fail
    clear hw3 hw4 hgq
    refine (rof_any px py w4).mono ?_
    rintro e w5 ⟨rfl, hb5⟩
    have HZ5 := Lib.hid (HZ4.out.new hb5)
    have HB5 := Lib.hid (bt HBW.out hb5)
    clear hb5 a0 a1 hd
    obtain ⟨z0, z1, z2⟩ := HZ5.out.cells
    have f0 := HZ5.out.frozen 0
    have f1 := HZ5.out.frozen 1
    have f2 := HZ5.out.frozen 2
    go_wp2_with fail
    exact bodyPost_ret (results_cell_row rfl _ _ _ _ _ _ _ rfl (HZ5.out.all (.int .i64 px) (.int .i64 py) (.int .i64 1)) Try.underlying23 rfl R_size) rfl ⟨px, py, 1, rfl, ⟨⟨by decide, by decide⟩, ⟨by have := HC.out.1.1; omega, by have := HC.out.1.2; omega⟩, ⟨by have := HC.out.2.1; omega, by have := HC.out.2.2; omega⟩, fun _ _ => rfl⟩, below_box3 HB5.out (by rw [HH.out]; exact Nat.le_refl _) _ _ _⟩
  · have hd2 : (d == 1) = false := by simp [h1]
    have hda : 1 ≤ d := HD.out.1
    have hdb : d ≤ 12 := HD.out.2
    have m1 : 0 ≤ px * d ∧ px * d ≤ 384 := ⟨Int.mul_nonneg HC.out.1.1 (by omega), by have := Int.mul_le_mul HC.out.1.2 hdb (by omega) (show (0 : Int) ≤ 32 by decide); omega⟩
    have m2 : 0 ≤ py * d ∧ py * d ≤ 384 := ⟨Int.mul_nonneg HC.out.2.1 (by omega), by have := Int.mul_le_mul HC.out.2.2 hdb (by omega) (show (0 : Int) ≤ 32 by decide); omega⟩
    have hk2 := HKK.out
    have r1 : 0 ≤ k / 64 % d ∧ k / 64 % d < d := ⟨Int.emod_nonneg _ (by omega), Int.emod_lt_of_pos _ (by omega)⟩
    have r2 : 0 ≤ k / 256 % d ∧ k / 256 % d < d := ⟨Int.emod_nonneg _ (by omega), Int.emod_lt_of_pos _ (by omega)⟩
    have g1 : 0 ≤ k / 64 := by omega
    have g2 : 0 ≤ k / 256 := by omega
    have e2 : IntKind.i64.wrap (px * d) = px * d := IntWalk.i64_in _ (by omega)
    have e3 : IntKind.i64.wrap (py * d) = py * d := IntWalk.i64_in _ (by omega)
    have e4 : IntKind.i64.wrap (k / 64) = k / 64 := IntWalk.i64_in _ (by omega)
    have e5 : IntKind.i64.wrap (k / 256) = k / 256 := IntWalk.i64_in _ (by omega)
    have e6 : IntKind.i64.wrap (k / 64 % d) = k / 64 % d := IntWalk.i64_in _ (by omega)
    have e7 : IntKind.i64.wrap (k / 256 % d) = k / 256 % d := IntWalk.i64_in _ (by omega)
    have e8 : IntKind.i64.wrap (px * d - k / 64 % d) = px * d - k / 64 % d := IntWalk.i64_in _ (by omega)
    have e9 : IntKind.i64.wrap (py * d - k / 256 % d) = py * d - k / 256 % d := IntWalk.i64_in _ (by omega)
    have HM := Lib.hid (show (-400 ≤ px * d - k / 64 % d ∧ px * d - k / 64 % d ≤ 400) ∧ (-400 ≤ py * d - k / 256 % d ∧ py * d - k / 256 % d ≤ 400) from ⟨⟨by omega, by omega⟩, by omega, by omega⟩)
    have hdn : d ≠ 0 := by omega
    have hk3 : 0 ≤ k := hk2.1
    clear m1 m2 r1 r2 h1 hdb hk2
    go_wp2_with fail
    clear hw3 hw4 hgq hd hj
    have HXX := Lib.hid HBW.out
    obtain ⟨v0, hv0⟩ : ∃ z, World.drew w4 = z := ⟨_, rfl⟩
    have HD0 := Lib.hid (show Below w4.heap.size w4 v0 by rw [← hv0]; exact (Below.refl _ _).drew)
    have HX_0 := Lib.hid (bt HXX.out HD0.out)
    have HP_r_0 := Lib.hid (HZ4.out.new HD0.out)
    have HP_q_0 := Lib.hid (HQ4.out.new HD0.out)
    refine wp_region_held_drew (S := (fun w' : World => w'.cell? ⟨gq, 0, none⟩ = some (.int .i64 px) ∧ w'.cell? ⟨gq, 1, none⟩ = some (.int .i64 py) ∧ Below w.heap.size w w')) (by kernel_rfl) ?_ (fun hHeld => ?_)
    · rw [hv0]
      exact ⟨HP_q_0.out.cells.1, HP_q_0.out.cells.2, HX_0.out⟩
    rw [hv0] at hHeld ⊢
    clear hv0 HD0
    refine wpAnyH_take (i := 0) (v := ?_) rfl (by kernel_rfl) (by kernel_rfl) (by kernel_rfl) (fun _ _ _ h => h) (Or.inl ⟨by kernel_rfl, ?_⟩) (by assumption) ?_
    rotate_left
    · intro w hSw
      (try dsimp only at hSw)
      go_simp
      all_goals (with_reducible rfl)
    try simp only [Act.put, List.getElem_toArray, List.getElem_cons_zero, List.setIfInBounds_toArray, List.set_cons_zero, List.set_cons_succ]
    refine wpAnyH_take (i := 1) (v := ?_) rfl (by kernel_rfl) (by kernel_rfl) (by kernel_rfl) (fun _ _ _ h => h) (Or.inl ⟨by kernel_rfl, ?_⟩) (by assumption) ?_
    rotate_left
    · intro w hSw
      (try dsimp only at hSw)
      go_simp
      all_goals (with_reducible rfl)
    try simp only [Act.put, List.getElem_toArray, List.getElem_cons_zero, List.getElem_cons_succ, List.setIfInBounds_toArray, List.set_cons_zero, List.set_cons_succ]
    refine wpAnyH_take (i := 2) (v := ?_) rfl (by kernel_rfl) (by kernel_rfl) (by kernel_rfl) (fun _ _ _ h => h) (Or.inl ⟨by kernel_rfl, ?_⟩) (by assumption) ?_
    rotate_left
    · intro w hSw
      (try dsimp only at hSw)
      go_simp
      all_goals (with_reducible rfl)
    try simp only [Act.put, List.getElem_toArray, List.getElem_cons_zero, List.getElem_cons_succ, List.setIfInBounds_toArray, List.set_cons_zero, List.set_cons_succ]
    refine wpAnyH_take (i := 3) (v := ?_) rfl (by kernel_rfl) (by kernel_rfl) (by kernel_rfl) (fun _ _ _ h => h) (Or.inl ⟨by kernel_rfl, ?_⟩) (by assumption) ?_
    rotate_left
    · intro w hSw
      (try dsimp only at hSw)
      go_simp
      all_goals (with_reducible rfl)
    try simp only [Act.put, List.getElem_toArray, List.getElem_cons_zero, List.getElem_cons_succ, List.setIfInBounds_toArray, List.set_cons_zero, List.set_cons_succ]
    refine wpAnyH_take (i := 4) (v := ?_) rfl (by kernel_rfl) (by kernel_rfl) (by kernel_rfl) (fun _ _ _ h => h) (Or.inl ⟨by kernel_rfl, ?_⟩) (by assumption) ?_
    rotate_left
    · intro w hSw
      (try dsimp only at hSw)
      go_simp
      all_goals (with_reducible rfl)
    try simp only [Act.put, List.getElem_toArray, List.getElem_cons_zero, List.getElem_cons_succ, List.setIfInBounds_toArray, List.set_cons_zero, List.set_cons_succ]
    refine wpAnyH_take (i := 5) (v := ?_) rfl (by kernel_rfl) (by kernel_rfl) (by kernel_rfl) (fun _ _ _ h => h) (Or.inl ⟨by kernel_rfl, ?_⟩) (by assumption) ?_
    rotate_left
    · intro w hSw
      (try dsimp only at hSw)
      go_simp
      all_goals (with_reducible rfl)
    try simp only [Act.put, List.getElem_toArray, List.getElem_cons_zero, List.getElem_cons_succ, List.setIfInBounds_toArray, List.set_cons_zero, List.set_cons_succ]
    refine wpAnyH_take (i := 6) (v := ?_) rfl (by kernel_rfl) (by kernel_rfl) (by kernel_rfl) (fun _ _ _ h => h) (Or.inl ⟨by kernel_rfl, ?_⟩) (by assumption) ?_
    rotate_left
    · intro w hSw
      (try dsimp only at hSw)
      go_simp
      all_goals (with_reducible rfl)
    try simp only [Act.put, List.getElem_toArray, List.getElem_cons_zero, List.getElem_cons_succ, List.setIfInBounds_toArray, List.set_cons_zero, List.set_cons_succ]
    refine wpAnyH_take (i := 7) (v := ?_) rfl (by kernel_rfl) (by kernel_rfl) (by kernel_rfl) (fun _ _ _ h => h) (Or.inl ⟨by kernel_rfl, ?_⟩) (by assumption) ?_
    rotate_left
    · intro w hSw
      (try dsimp only at hSw)
      go_simp
      all_goals (with_reducible rfl)
    try simp only [Act.put, List.getElem_toArray, List.getElem_cons_zero, List.getElem_cons_succ, List.setIfInBounds_toArray, List.set_cons_zero, List.set_cons_succ]
    refine wpAnyH_take (i := 8) (v := ?_) rfl (by kernel_rfl) (by kernel_rfl) (by kernel_rfl) (fun _ _ _ h => h) (Or.inl ⟨by kernel_rfl, ?_⟩) (by assumption) ?_
    rotate_left
    · intro w hSw
      (try dsimp only at hSw)
      go_simp
      all_goals (with_reducible rfl)
    try simp only [Act.put, List.getElem_toArray, List.getElem_cons_zero, List.getElem_cons_succ, List.setIfInBounds_toArray, List.set_cons_zero, List.set_cons_succ]
    refine wpAnyH_take (i := 9) (v := ?_) rfl (by kernel_rfl) (by kernel_rfl) (by kernel_rfl) (fun _ _ _ h => h) (Or.inl ⟨by kernel_rfl, ?_⟩) (by assumption) ?_
    rotate_left
    · intro w hSw
      (try dsimp only at hSw)
      go_simp
      all_goals (with_reducible rfl)
    try simp only [Act.put, List.getElem_toArray, List.getElem_cons_zero, List.getElem_cons_succ, List.setIfInBounds_toArray, List.set_cons_zero, List.set_cons_succ]
    refine wpAnyH_take (i := 10) (v := ?_) rfl (by kernel_rfl) (by kernel_rfl) (by kernel_rfl) (fun _ _ _ h => h) (Or.inl ⟨by kernel_rfl, ?_⟩) (by assumption) ?_
    rotate_left
    · intro w hSw
      (try dsimp only at hSw)
      go_simp
      all_goals (with_reducible rfl)
    try simp only [Act.put, List.getElem_toArray, List.getElem_cons_zero, List.getElem_cons_succ, List.setIfInBounds_toArray, List.set_cons_zero, List.set_cons_succ]
    refine wpAnyH_take (i := 11) (v := ?_) rfl (by kernel_rfl) (by kernel_rfl) (by kernel_rfl) (fun _ _ _ h => h) (Or.inl ⟨by kernel_rfl, ?_⟩) (by assumption) ?_
    rotate_left
    · intro w hSw
      (try dsimp only at hSw)
      go_simp
      all_goals (with_reducible rfl)
    try simp only [Act.put, List.getElem_toArray, List.getElem_cons_zero, List.getElem_cons_succ, List.setIfInBounds_toArray, List.set_cons_zero, List.set_cons_succ]
    refine wpAnyH_take (i := 12) (v := ?_) rfl (by kernel_rfl) (by kernel_rfl) (by kernel_rfl) (fun _ _ _ h => h) (Or.inl ⟨by kernel_rfl, ?_⟩) (by assumption) ?_
    rotate_left
    · intro w hSw
      (try dsimp only at hSw)
      go_simp
      all_goals (with_reducible rfl)
    try simp only [Act.put, List.getElem_toArray, List.getElem_cons_zero, List.getElem_cons_succ, List.setIfInBounds_toArray, List.set_cons_zero, List.set_cons_succ]
    refine wpAnyH_take (i := 13) (v := ?_) rfl (by kernel_rfl) (by kernel_rfl) (by kernel_rfl) (fun _ _ _ h => h) (Or.inl ⟨by kernel_rfl, ?_⟩) (by assumption) ?_
    rotate_left
    · intro w hSw
      (try dsimp only at hSw)
      go_simp
      all_goals (with_reducible rfl)
    try simp only [Act.put, List.getElem_toArray, List.getElem_cons_zero, List.getElem_cons_succ, List.setIfInBounds_toArray, List.set_cons_zero, List.set_cons_succ]
    refine wpAnyH_take (i := 14) (v := ?_) rfl (by kernel_rfl) (by kernel_rfl) (by kernel_rfl) (fun _ _ _ h => h) (Or.inl ⟨by kernel_rfl, ?_⟩) (by assumption) ?_
    rotate_left
    · intro w hSw
      (try dsimp only at hSw)
      go_simp
      all_goals (with_reducible rfl)
    try simp only [Act.put, List.getElem_toArray, List.getElem_cons_zero, List.getElem_cons_succ, List.setIfInBounds_toArray, List.set_cons_zero, List.set_cons_succ]
    refine wpAnyH_take (i := 15) (v := ?_) rfl (by kernel_rfl) (by kernel_rfl) (by kernel_rfl) (fun _ _ _ h => h) (Or.inl ⟨by kernel_rfl, ?_⟩) (by assumption) ?_
    rotate_left
    · intro w hSw
      (try dsimp only at hSw)
      go_simp
      all_goals (with_reducible rfl)
    try simp only [Act.put, List.getElem_toArray, List.getElem_cons_zero, List.getElem_cons_succ, List.setIfInBounds_toArray, List.set_cons_zero, List.set_cons_succ]
    refine wpAnyH_take (i := 16) (v := ?_) rfl (by kernel_rfl) (by kernel_rfl) (by kernel_rfl) (fun _ _ _ h => h) (Or.inl ⟨by kernel_rfl, ?_⟩) (by assumption) ?_
    rotate_left
    · intro w hSw
      (try dsimp only at hSw)
      go_simp
      all_goals (with_reducible rfl)
    try simp only [Act.put, List.getElem_toArray, List.getElem_cons_zero, List.getElem_cons_succ, List.setIfInBounds_toArray, List.set_cons_zero, List.set_cons_succ]
    refine wpAnyH_take (i := 17) (v := ?_) rfl (by kernel_rfl) (by kernel_rfl) (by kernel_rfl) (fun _ _ _ h => h) (Or.inl ⟨by kernel_rfl, ?_⟩) (by assumption) ?_
    rotate_left
    · intro w hSw
      (try dsimp only at hSw)
      go_simp
      all_goals (with_reducible rfl)
    try simp only [Act.put, List.getElem_toArray, List.getElem_cons_zero, List.getElem_cons_succ, List.setIfInBounds_toArray, List.set_cons_zero, List.set_cons_succ]
    refine wpAnyH_take (i := 18) (v := ?_) rfl (by kernel_rfl) (by kernel_rfl) (by kernel_rfl) (fun _ _ _ h => h) (Or.inl ⟨by kernel_rfl, ?_⟩) (by assumption) ?_
    rotate_left
    · intro w hSw
      (try dsimp only at hSw)
      go_simp
      all_goals (with_reducible rfl)
    try simp only [Act.put, List.getElem_toArray, List.getElem_cons_zero, List.getElem_cons_succ, List.setIfInBounds_toArray, List.set_cons_zero, List.set_cons_succ]
    refine wpAnyH_ready (rs := [19]) (by kernel_rfl) (by simp) ?_
    refine AllReadyH.cons rfl (fun K hK => ?_) AllReadyH.nil
    go_simp
    go_at_call 15
    rw [show k.tdiv 64 = k / 64 from Int.tdiv_eq_ediv_of_nonneg hk3, show k.tdiv 256 = k / 256 from Int.tdiv_eq_ediv_of_nonneg hk3, e4, e5, show (k / 64).tmod d = k / 64 % d from Int.tmod_eq_emod_of_nonneg g1, show (k / 256).tmod d = k / 256 % d from Int.tmod_eq_emod_of_nonneg g2, e8, e9]
    refine (make_any (px * d - k / 64 % d) (py * d - k / 256 % d) d v0 (by omega) ⟨by have := HM.out; omega, by have := HM.out; omega⟩ ⟨by have := HM.out; omega, by have := HM.out; omega⟩ ⟨by omega, by have := HD.out; omega⟩).mono ?_
    rintro e v1 ⟨X, Y, D, rfl, hmk, hD0, hk⟩
    have HSM := Lib.hid (sm_of hmk hD0 HM.out.1 HM.out.2 HD.out.2 (by omega))
    clear hmk hD0
    have HB_1 := Lib.hid hk
    go_wp2_with fail
    have HX_1 := Lib.hid (bt HX_0.out HB_1.out)
    have HP_r_1 := Lib.hid (HP_r_0.out.new HB_1.out)
    have HP_q_1 := Lib.hid (HP_q_0.out.new HB_1.out)
    refine hK.out _ _ (⟨HP_q_1.out.cells.1, HP_q_1.out.cells.2, HX_1.out⟩) (fun hHeld2 => ?_)
    clear hHeld
    have hHeld := hHeld2
    clear hHeld2 hK K hk HB_1 HX_0 HP_r_0 HP_q_0
    try simp only [Act.put, List.getElem_toArray, List.getElem_cons_zero, List.getElem_cons_succ, List.setIfInBounds_toArray, List.set_cons_zero, List.set_cons_succ]
    refine wpAnyH_ready (rs := [20]) (by kernel_rfl) (by simp) ?_
    refine AllReadyH.cons rfl (fun K hK => ?_) AllReadyH.nil
    obtain ⟨z0, z1, z2⟩ := HP_r_1.out.cells
    have y0 := HP_r_1.out.frozen 0
    have y1 := HP_r_1.out.frozen 1
    have y2 := HP_r_1.out.frozen 2
    have z9 := HP_r_1.out.lt
    go_simp
    obtain ⟨v2, hV⟩ : ∃ z, World.setCell (World.setCell (World.setCell v1 ⟨h, 0, none⟩ (.int .i64 X)) ⟨h, 1, none⟩ (.int .i64 Y)) ⟨h, 2, none⟩ (.int .i64 D) = z := ⟨_, rfl⟩
    rw [hV]
    have HX_2 := Lib.hid (show Below w.heap.size w v2 by rw [← hV]; exact below_box3 HX_1.out ((show w.heap.size ≤ h by rw [HH.out]; exact Nat.le_refl _)) _ _ _)
    have HP_q_2 := Lib.hid (show P2 44 v2 gq (.int .i64 px) (.int .i64 py) by rw [← hV]; exact HP_q_1.out.far3 (show gq ≠ h from HNE.out) (.int .i64 X) (.int .i64 Y) (.int .i64 D))
    have HP_r_2 := Lib.hid (show P3 23 v2 h (.int .i64 X) (.int .i64 Y) (.int .i64 D) by rw [← hV]; exact HP_r_1.out.all (.int .i64 X) (.int .i64 Y) (.int .i64 D))
    refine hK.out _ _ (⟨HP_q_2.out.cells.1, HP_q_2.out.cells.2, HX_2.out⟩) (fun hHeld2 => ?_)
    clear hHeld
    have hHeld := hHeld2
    clear hHeld2 hK K hV z9 z0 z1 z2 y0 y1 y2 HX_1 HP_q_1 HP_r_1
    try simp only [Act.put, List.getElem_toArray, List.getElem_cons_zero, List.getElem_cons_succ, List.setIfInBounds_toArray, List.set_cons_zero, List.set_cons_succ]
    refine wpAnyH_done (by kernel_rfl) ?_ _
    clear hHeld
    have HF := Lib.hid HP_r_2.out
    have HBF := Lib.hid HX_2.out
    go_wp2_with fail
    exact bodyPost_ret (results_cell_row rfl _ _ _ _ _ _ _ rfl HF.out Try.underlying23 rfl R_size) rfl ⟨X, Y, D, rfl, HSM.out, HBF.out⟩
set_option maxRecDepth 100000 in
set_option maxHeartbeats 6400000 in
theorem real_any (X Y D : Int) (w : World) (hx : (Lit.int .i64 X).wf = true) (hy : (Lit.int .i64 Y).wf = true) (hd : (Lit.int .i64 D).wf = true) :
    Calls Try.prog 10 #[.agg #[.int .i64 X, .int .i64 Y, .int .i64 D]] w (RetTw (mkP X D) (mkQ X D) (mkP Y D) (mkQ Y D) w) := by
  have HI := Lib.hid (And.intro hx (And.intro hy hd))
  clear hx hy hd
  obtain ⟨W, hW⟩ : ∃ W, (w.alloc (.cells #[.int .i64 X, .int .i64 Y, .int .i64 D] 23)).alloc (.cells #[.bool false, .slice none 0 0, .bool false, .slice none 0 0, .bool false, .slice none 0 0, .bool false, .slice none 0 0] 33) = W := ⟨_, rfl⟩
  have HK := Lib.hid (show Below w.heap.size w W by rw [← hW]; exact ((Below.refl _ w).alloc (Nat.le_refl _) _).alloc (by simp) _)
  have HA := Lib.hid (show P3 23 W w.heap.size (.int .i64 X) (.int .i64 Y) (.int .i64 D) by rw [← hW]; exact (P3.lit w _ _ _ _).new ((Below.refl _ _).alloc (Nat.le_refl _) _))
  have HZ := Lib.hid (show P8 33 W (w.heap.size + 1) (.bool false) (.slice none 0 0) (.bool false) (.slice none 0 0) (.bool false) (.slice none 0 0) (.bool false) (.slice none 0 0) by
    rw [← hW]
    have h0 := P8.lit (w.alloc (.cells #[.int .i64 X, .int .i64 Y, .int .i64 D] 23)) 33 (.bool false) (.slice none 0 0) (.bool false) (.slice none 0 0) (.bool false) (.slice none 0 0) (.bool false) (.slice none 0 0)
    rw [World.size_alloc] at h0
    exact h0)
  obtain ⟨h, hh⟩ : ∃ h, w.heap.size = h := ⟨_, rfl⟩
  rw [hh] at HA HZ
  have HH := Lib.hid hh
  obtain ⟨a0, a1, a2⟩ := HA.out.cells
  go_enter Try.func10, Try.ntmps10
  go_wp2_with fail
  clear hW hh
  refine (fof_any X D W HI.out.1 HI.out.2.2).mono ?_
  rintro e w1 ⟨s0, A0, n0, c0, t0, B0, m0, d0, rfl, hr1, hb1⟩
  obtain ⟨w2, hw2⟩ : ∃ z, w1.alloc (.cells #[.bool s0, .slice A0 n0 c0, .bool t0, .slice B0 m0 d0] 31) = z := ⟨_, rfl⟩
  have HN2 := Lib.hid (show Below w1.heap.size w1 w2 by rw [← hw2]; exact (Below.refl _ _).alloc (Nat.le_refl _) _)
  have HQ2 := Lib.hid (show P4 31 w2 w1.heap.size (.bool s0) (.slice A0 n0 c0) (.bool t0) (.slice B0 m0 d0) by rw [← hw2]; exact P4.lit _ _ _ _ _ _)
  have H0 := Lib.hid (hr1.new HN2.out)
  have HB2 := Lib.hid (bt hb1 HN2.out)
  have HA2 := Lib.hid (HA.out.new HB2.out)
  have HZ2 := Lib.hid (HZ.out.new HB2.out)
  have HK2 := Lib.hid (bt HK.out HB2.out)
  obtain ⟨g0, hg0⟩ : ∃ g, w1.heap.size = g := ⟨_, rfl⟩
  rw [hg0] at HQ2
  clear hr1 hb1 a0 a1 a2
  obtain ⟨a0, a1, a2⟩ := HA2.out.cells
  go_wp2_with fail
  clear hw2 hg0
  refine (fof_any Y D w2 HI.out.2.1 HI.out.2.2).mono ?_
  rintro e w3 ⟨s1, A1, n1, c1, t1, B1, m1, d1, rfl, hr1, hb1⟩
  obtain ⟨w4, hw4⟩ : ∃ z, w3.alloc (.cells #[.bool s1, .slice A1 n1 c1, .bool t1, .slice B1 m1 d1] 31) = z := ⟨_, rfl⟩
  have HN4 := Lib.hid (show Below w3.heap.size w3 w4 by rw [← hw4]; exact (Below.refl _ _).alloc (Nat.le_refl _) _)
  have HQ4 := Lib.hid (show P4 31 w4 w3.heap.size (.bool s1) (.slice A1 n1 c1) (.bool t1) (.slice B1 m1 d1) by rw [← hw4]; exact P4.lit _ _ _ _ _ _)
  have H1 := Lib.hid (hr1.new HN4.out)
  have HB4 := Lib.hid (bt hb1 HN4.out)
  have H04 := Lib.hid (H0.out.new HB4.out)
  have HQ24 := Lib.hid (HQ2.out.new HB4.out)
  have HZ4 := Lib.hid (HZ2.out.new HB4.out)
  have HK4 := Lib.hid (bt HK2.out HB4.out)
  obtain ⟨g1, hg1⟩ : ∃ g, w3.heap.size = g := ⟨_, rfl⟩
  rw [hg1] at HQ4
  clear hr1 hb1 a0 a1 a2 H0 HQ2 HZ2 HK2 HZ HA HA2
  obtain ⟨p0, p1, p2, p3⟩ := HQ24.out.cells
  obtain ⟨q0, q1, q2, q3⟩ := HQ4.out.cells
  obtain ⟨⟨z0, z1, z2, z3⟩, z4, z5, z6, z7⟩ := HZ4.out.cells
  have f0 := HZ4.out.frozen 0
  have f1 := HZ4.out.frozen 1
  have f2 := HZ4.out.frozen 2
  have f3 := HZ4.out.frozen 3
  have f4 := HZ4.out.frozen 4
  have f5 := HZ4.out.frozen 5
  have f6 := HZ4.out.frozen 6
  have f7 := HZ4.out.frozen 7
  have HNO := Lib.hid (show NoW w4 (h + 1) from noW_of HZ4.out rfl)
  go_wp2_with fail
  exact bodyPost_ret (results_cell_row rfl _ _ _ _ _ _ _ rfl (HZ4.out.all (.bool s0) (.slice A0 n0 c0) (.bool t0) (.slice B0 m0 d0) (.bool s1) (.slice A1 n1 c1) (.bool t1) (.slice B1 m1 d1)) Try.underlying33 rfl TP_size) rfl ⟨s0, A0, n0, c0, t0, B0, m0, d0, s1, A1, n1, c1, t1, B1, m1, d1, rfl, PF.apart H04.out (kp8 w4 (h + 1) _ _ _ _ _ _ _ _) HNO.out, PF.apart H1.out (kp8 w4 (h + 1) _ _ _ _ _ _ _ _) HNO.out, below8 HK4.out (by rw [HH.out]; omega) _ _ _ _ _ _ _ _⟩
end Go.Proofs.Ytfmccalkfagafaa
