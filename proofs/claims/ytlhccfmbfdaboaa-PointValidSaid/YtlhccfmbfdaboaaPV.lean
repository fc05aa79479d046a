/- The walk of PointValid: the law returns true for every input. -/
import Derived.Test.YtlhccfmbfdaboaaPQ
namespace Go.Proofs.Ytlhccfmbfdaboaa
open Go.RowKit
attribute [local go_sem ↓] Go.wp_at_zero Go.wp_at_succ
/-- Six points of the grid. -/
def Pts (w : World) (G : Nat) : Prop := ∀ i, i < 6 → ∃ a b : Int, w.cell? ⟨G, i * 2, none⟩ = some (.int .i64 a) ∧ w.cell? ⟨G, i * 2 + 1, none⟩ = some (.int .i64 b) ∧ (Lit.int .i64 a).wf = true ∧ (Lit.int .i64 b).wf = true
theorem pts_new {w w' : World} {G : Nat} (h : Pts w G) (hb : Below w.heap.size w w') : Pts w' G := by
  intro i hi
  obtain ⟨a, b, h1, h2, h3, h4⟩ := h i hi
  exact ⟨a, b, (hb.cell (World.block_lt_of_cell? w _ h1)).trans h1, (hb.cell (World.block_lt_of_cell? w _ h2)).trans h2, h3, h4⟩
theorem pts_lit {w : World} {t : TypeId} (a0 b0 a1 b1 a2 b2 a3 b3 a4 b4 a5 b5 : Int) (h : (Lit.int .i64 a0).wf = true ∧ (Lit.int .i64 b0).wf = true ∧ (Lit.int .i64 a1).wf = true ∧ (Lit.int .i64 b1).wf = true ∧ (Lit.int .i64 a2).wf = true ∧ (Lit.int .i64 b2).wf = true ∧ (Lit.int .i64 a3).wf = true ∧ (Lit.int .i64 b3).wf = true ∧ (Lit.int .i64 a4).wf = true ∧ (Lit.int .i64 b4).wf = true ∧ (Lit.int .i64 a5).wf = true ∧ (Lit.int .i64 b5).wf = true) :
    Pts (w.alloc (.cells #[.int .i64 a0, .int .i64 b0, .int .i64 a1, .int .i64 b1, .int .i64 a2, .int .i64 b2, .int .i64 a3, .int .i64 b3, .int .i64 a4, .int .i64 b4, .int .i64 a5, .int .i64 b5] t)) w.heap.size := by
  obtain ⟨w0, w1, w2, w3, w4, w5, w6, w7, w8, w9, w10, w11⟩ := h
  have hh := heap_alloc_new w (.cells #[.int .i64 a0, .int .i64 b0, .int .i64 a1, .int .i64 b1, .int .i64 a2, .int .i64 b2, .int .i64 a3, .int .i64 b3, .int .i64 a4, .int .i64 b4, .int .i64 a5, .int .i64 b5] t)
  intro i hi
  match i, hi with
  | 0, _ => exact ⟨a0, b0, (cell_of_row _ _ _ _ t (0, 0) hh).trans rfl, (cell_of_row _ _ _ _ t (0, 0) hh).trans rfl, w0, w1⟩
  | 1, _ => exact ⟨a1, b1, (cell_of_row _ _ _ _ t (0, 0) hh).trans rfl, (cell_of_row _ _ _ _ t (0, 0) hh).trans rfl, w2, w3⟩
  | 2, _ => exact ⟨a2, b2, (cell_of_row _ _ _ _ t (0, 0) hh).trans rfl, (cell_of_row _ _ _ _ t (0, 0) hh).trans rfl, w4, w5⟩
  | 3, _ => exact ⟨a3, b3, (cell_of_row _ _ _ _ t (0, 0) hh).trans rfl, (cell_of_row _ _ _ _ t (0, 0) hh).trans rfl, w6, w7⟩
  | 4, _ => exact ⟨a4, b4, (cell_of_row _ _ _ _ t (0, 0) hh).trans rfl, (cell_of_row _ _ _ _ t (0, 0) hh).trans rfl, w8, w9⟩
  | 5, _ => exact ⟨a5, b5, (cell_of_row _ _ _ _ t (0, 0) hh).trans rfl, (cell_of_row _ _ _ _ t (0, 0) hh).trans rfl, w10, w11⟩
theorem sm_i64 {x : Int} (h : (Lit.int .i64 x).wf = true) : isSm x = true := by
  obtain ⟨h1, h2⟩ : -9223372036854775808 ≤ x ∧ x ≤ 9223372036854775807 := by simpa [Lit.wf, IntKind.min, IntKind.max, IntKind.signed, IntKind.bits] using h
  unfold isSm
  exact decide_eq_true ⟨h1, h2⟩
theorem pw_vals {a b : Int} (ha : (Lit.int .i64 a).wf = true) (hb : (Lit.int .i64 b).wf = true) : pwE a 1 b 1 = vdC a b ∧ (vdC a b = 0 → pwX a 1 b 1 = a ∧ pwY a 1 b 1 = b) ∧ (vdC a b ≠ 0 → pwX a 1 b 1 = 0 ∧ pwY a 1 b 1 = 0) := by
  have va : whV a 1 = a ∧ whC a 1 = 0 := ⟨if_pos ⟨sm_i64 ha, rfl⟩, if_pos ⟨sm_i64 ha, rfl⟩⟩
  have vb : whV b 1 = b ∧ whC b 1 = 0 := ⟨if_pos ⟨sm_i64 hb, rfl⟩, if_pos ⟨sm_i64 hb, rfl⟩⟩
  have e1 : pwA a 1 b 1 = a := by unfold pwA eiA; rw [if_pos ⟨va.2, vb.2⟩, va.1]
  have e2 : pwB a 1 b 1 = b := by unfold pwB eiB; rw [if_pos ⟨va.2, vb.2⟩, vb.1]
  have e3 : eiC whC a 1 b 1 = 0 := by unfold eiC; rw [if_pos va.2, vb.2]
  have e4 : pwE a 1 b 1 = vdC a b := by unfold pwE; rw [e1, e2, e3]; exact if_pos rfl
  refine ⟨e4, fun h => ?_, fun h => ?_⟩
  · unfold pwX pwY; rw [e4, if_pos h, if_pos h, e1, e2]; exact ⟨rfl, rfl⟩
  · unfold pwX pwY; rw [e4, if_neg h, if_neg h]; exact ⟨rfl, rfl⟩
theorem pc_self (a b : Int) : pcV a 1 b 1 a 1 b 1 = 0 := by
  unfold pcV
  rw [cmpI_same rfl, if_pos rfl, cmpI_same rfl]
theorem tmod50 (v : Int) : -50 < v.tmod 50 ∧ v.tmod 50 < 50 := by
  rcases Int.le_total 0 v with h | h
  · rw [Int.tmod_eq_emod_of_nonneg h]; omega
  · have e : v.tmod 50 = -((-v) % 50) := by rw [← Int.tmod_eq_emod_of_nonneg (by omega), Int.neg_tmod, Int.neg_neg]
    rw [e]; omega
theorem keep3 {a b : World} {p : Addr} {v : Value} (h1 : Below a.heap.size a b) (h : a.cell? p = some v) : b.cell? p = some v := (h1.cell (World.block_lt_of_cell? a _ h)).trans h
set_option maxRecDepth 100000 in
set_option maxHeartbeats 6400000 in
theorem pointValid_walk (x y z u : Int) (w : World) (hx : (Lit.int .i64 x).wf = true) (hy : (Lit.int .i64 y).wf = true) (hz : (Lit.int .i64 z).wf = true) (hu : (Lit.int .i64 u).wf = true) :
    Calls Try.prog 5 #[.int .i64 x, .int .i64 y, .int .i64 z, .int .i64 u] w fun e w' => e = .returned (.bool true) ∧ Below w.heap.size w w' := by
  have hu1 := tmod50 u
  have hz1 := tmod50 z
  have hw1 : IntKind.i64.wrap (u.tmod 50) = u.tmod 50 := IntWalk.i64_in _ (by omega)
  have hw2 : IntKind.i64.wrap (z.tmod 50) = z.tmod 50 := IntWalk.i64_in _ (by omega)
  obtain ⟨W, hW⟩ : ∃ W, w.alloc (.cells #[.int .i64 x, .int .i64 y, .int .i64 y, .int .i64 z, .int .i64 1073741824, .int .i64 (-1073741824), .int .i64 1073741825, .int .i64 0, .int .i64 0, .int .i64 (-1073741825), .int .i64 (u.tmod 50), .int .i64 (z.tmod 50)] 55) = W := ⟨_, rfl⟩
  have HK := Lib.hid (show Below w.heap.size w W by rw [← hW]; exact (Below.refl _ w).alloc (Nat.le_refl _) _)
  have HP := Lib.hid (show Pts W w.heap.size by rw [← hW]; exact pts_lit x y y z 1073741824 (-1073741824) 1073741825 0 0 (-1073741825) (u.tmod 50) (z.tmod 50) ⟨hx, hy, hy, hz, by decide, by decide, by decide, by decide, by decide, by decide, WalkArith.wf_i64 (by omega), WalkArith.wf_i64 (by omega)⟩)
  obtain ⟨G, hG⟩ : ∃ g, w.heap.size = g := ⟨_, rfl⟩
  rw [hG] at HP
  clear hx hy hz hu
  go_enter Try.func5, Try.ntmps5
  go_wp2_with fail
  clear hW hG hw1 hw2 hu1 hz1
  go_loopw [10] (fun tv wr => ∃ i : Nat, i ≤ 6 ∧ tv = .int .i64 (i : Int) ∧ Pts wr G ∧ Below w.heap.size w wr) (fun tv _ => 6 - (intOf tv).toNat)
  case atStart => exact ⟨0, by omega, rfl, HP.out, HK.out⟩
  case round =>
    clear HP HK
    obtain ⟨i, hi, rfl, hp, hbel⟩ := hrel
    have HP := Lib.hid hp
    have HB := Lib.hid hbel
    clear hp hbel
    by_cases hlt : i < 6
    · obtain ⟨a, b, e0, e1, ha, hb⟩ := HP.out i hlt
      have h0i : (0 : Int) ≤ (i : Int) := by omega
      have hi6 : (i : Int) < 6 := by omega
      have HAB := Lib.hid (And.intro ha hb)
      have HE := Lib.hid (And.intro e0 e1)
      clear ha hb
      go_wp2_with fail
      refine (good_any a b wr).mono ?_
      rintro e w1 ⟨rfl, hb1⟩
      have HB1 := Lib.hid hb1
      have e0' := keep3 hb1 HE.out.1
      have e1' := keep3 hb1 HE.out.2
      clear hb1 e0 e1
      obtain ⟨k, hk⟩ : ∃ k, vdC a b = k := ⟨_, rfl⟩
      have HKV := Lib.hid hk
      rw [hk]
      clear hk
      go_wp2_with fail
      refine (pof_any a b w1 HAB.out.1 HAB.out.2).mono ?_
      rintro e w2 ⟨s0, A0, n0, c0, t0, B0, m0, d0, s1, A1, n1, c1, t1, B1, m1, d1, rfl, h0, h1, hb2⟩
      obtain ⟨x2, hx2⟩ : ∃ z, w2.alloc (.cells #[.bool s0, .slice A0 n0 c0, .bool t0, .slice B0 m0 d0, .bool s1, .slice A1 n1 c1, .bool t1, .slice B1 m1 d1] 61) = z := ⟨_, rfl⟩
      have HK2 := Lib.hid (show Below w2.heap.size w2 x2 by rw [← hx2]; exact (Below.refl _ _).alloc (Nat.le_refl _) _)
      have HQ2 := Lib.hid (show P8 61 x2 w2.heap.size (.bool s0) (.slice A0 n0 c0) (.bool t0) (.slice B0 m0 d0) (.bool s1) (.slice A1 n1 c1) (.bool t1) (.slice B1 m1 d1) by rw [← hx2]; exact P8.lit _ _ _ _ _ _ _ _ _ _)
      have H0 := Lib.hid (h0.new HK2.out)
      have H1 := Lib.hid (h1.new HK2.out)
      have HB2 := Lib.hid (bt HB1.out (bt hb2 HK2.out))
      obtain ⟨g, hg⟩ : ∃ g, w2.heap.size = g := ⟨_, rfl⟩
      rw [hg] at HQ2
      clear h0 h1 hb2 e0' e1'
      obtain ⟨⟨p0, p1, p2, p3⟩, p4, p5, p6, p7⟩ := HQ2.out.cells
      go_wp2_with fail
      clear hx2 hg p0 p1 p2 p3 p4 p5 p6 p7
      refine (pwhole_any a 1 b 1 s0 A0 n0 c0 t0 B0 m0 d0 s1 A1 n1 c1 t1 B1 m1 d1 x2 H0.out H1.out ⟨⟨by decide, i64_lim HAB.out.1, one_lim⟩, by decide, i64_lim HAB.out.2, one_lim⟩).mono ?_
      have hpw := pw_vals HAB.out.1 HAB.out.2
      rw [HKV.out] at hpw
      rw [hpw.1]
      obtain ⟨X, hX⟩ : ∃ z, pwX a 1 b 1 = z := ⟨_, rfl⟩
      obtain ⟨Y, hY⟩ : ∃ z, pwY a 1 b 1 = z := ⟨_, rfl⟩
      rw [hX, hY] at hpw ⊢
      have HPW := Lib.hid hpw.2
      clear hX hY hpw
      rintro e w3 ⟨rfl, hb3⟩
      obtain ⟨x3, hx3⟩ : ∃ z, w3.alloc (.cells #[.int .i64 X, .int .i64 Y] 55) = z := ⟨_, rfl⟩
      have HK3 := Lib.hid (show Below w3.heap.size w3 x3 by rw [← hx3]; exact (Below.refl _ _).alloc (Nat.le_refl _) _)
      have HQ3 := Lib.hid (show P2 55 x3 w3.heap.size (.int .i64 X) (.int .i64 Y) by rw [← hx3]; exact P2.lit _ _ _ _)
      obtain ⟨f, hf⟩ : ∃ g, w3.heap.size = g := ⟨_, rfl⟩
      rw [hf] at HQ3
      have HN3 := Lib.hid (bt hb3 HK3.out)
      have HQ23 := Lib.hid (HQ2.out.new HN3.out)
      have H03 := Lib.hid (H0.out.new HN3.out)
      have H13 := Lib.hid (H1.out.new HN3.out)
      have HB3 := Lib.hid (bt HB2.out HN3.out)
      have HBW := Lib.hid (bt HB.out HB3.out)
      have HP3 := Lib.hid (pts_new HP.out HB3.out)
      have HE3 := Lib.hid (And.intro (keep3 HB3.out HE.out.1) (keep3 HB3.out HE.out.2))
      clear hb3 H0 H1 HQ2 HB1 HB2 HP HE
      have HLM := Lib.hid (show (0 < (1 : Int) ∧ a.natAbs < lim ∧ (1 : Int).natAbs < lim) ∧ (0 < (1 : Int) ∧ b.natAbs < lim ∧ (1 : Int).natAbs < lim) from ⟨⟨by decide, i64_lim HAB.out.1, one_lim⟩, by decide, i64_lim HAB.out.2, one_lim⟩)
      go_wp2_with fail
      clear hx3 hf
      have hvc := vd_cases a b
      rw [HKV.out] at hvc
      rcases hvc with hk0 | hk0
      · subst hk0
        obtain ⟨hX, hY⟩ := HPW.out.1 rfl
        have hX' := hX.symm
        have hY' := hY.symm
        clear hX hY
        subst hX' hY'
        have HS : Hid (∀ w', Below x3.heap.size x3 w' → (fun w' : World => w'.cell? ⟨G, i * 2, none⟩ = some (.int .i64 a) ∧ w'.cell? ⟨G, i * 2 + 1, none⟩ = some (.int .i64 b) ∧ w'.cell? ⟨f, 0, none⟩ = some (.int .i64 a) ∧ w'.cell? ⟨f, 1, none⟩ = some (.int .i64 b) ∧ w'.cell? ⟨g, 0, none⟩ = some (.bool s0) ∧ w'.cell? ⟨g, 1, none⟩ = some (.slice A0 n0 c0) ∧ w'.cell? ⟨g, 2, none⟩ = some (.bool t0) ∧ w'.cell? ⟨g, 3, none⟩ = some (.slice B0 m0 d0) ∧ w'.cell? ⟨g, 4, none⟩ = some (.bool s1) ∧ w'.cell? ⟨g, 5, none⟩ = some (.slice A1 n1 c1) ∧ w'.cell? ⟨g, 6, none⟩ = some (.bool t1) ∧ w'.cell? ⟨g, 7, none⟩ = some (.slice B1 m1 d1) ∧ Below x3.heap.size x3 w') w') := Lib.hid (fun w' hb => ⟨keep3 hb HE3.out.1, keep3 hb HE3.out.2, (HQ3.out.new hb).cells.1, (HQ3.out.new hb).cells.2, (HQ23.out.new hb).cells.1.1, (HQ23.out.new hb).cells.1.2.1, (HQ23.out.new hb).cells.1.2.2.1, (HQ23.out.new hb).cells.1.2.2.2, (HQ23.out.new hb).cells.2.1, (HQ23.out.new hb).cells.2.2.1, (HQ23.out.new hb).cells.2.2.2.1, (HQ23.out.new hb).cells.2.2.2.2, hb⟩)
        have HXX := Lib.hid (Below.refl x3.heap.size x3)
        clear HPW
        obtain ⟨v0, hv0⟩ : ∃ z, World.drew x3 = z := ⟨_, rfl⟩
        have HD0 := Lib.hid (show Below x3.heap.size x3 v0 by rw [← hv0]; exact (Below.refl _ _).drew)
        have HX_0 := Lib.hid (bt HXX.out HD0.out)
        have A_0 := Lib.hid ((H03.out).new HD0.out)
        have B_0 := Lib.hid ((H13.out).new HD0.out)
        refine wp_region_held_drew (S := (fun w' : World => w'.cell? ⟨G, i * 2, none⟩ = some (.int .i64 a) ∧ w'.cell? ⟨G, i * 2 + 1, none⟩ = some (.int .i64 b) ∧ w'.cell? ⟨f, 0, none⟩ = some (.int .i64 a) ∧ w'.cell? ⟨f, 1, none⟩ = some (.int .i64 b) ∧ w'.cell? ⟨g, 0, none⟩ = some (.bool s0) ∧ w'.cell? ⟨g, 1, none⟩ = some (.slice A0 n0 c0) ∧ w'.cell? ⟨g, 2, none⟩ = some (.bool t0) ∧ w'.cell? ⟨g, 3, none⟩ = some (.slice B0 m0 d0) ∧ w'.cell? ⟨g, 4, none⟩ = some (.bool s1) ∧ w'.cell? ⟨g, 5, none⟩ = some (.slice A1 n1 c1) ∧ w'.cell? ⟨g, 6, none⟩ = some (.bool t1) ∧ w'.cell? ⟨g, 7, none⟩ = some (.slice B1 m1 d1) ∧ Below x3.heap.size x3 w')) (by kernel_rfl) ?_ (fun hHeld => ?_)
        · rw [hv0]
          exact HS.out _ HX_0.out
        rw [hv0] at hHeld ⊢
        clear hv0 HD0
        refine wpAnyH_take (i := 0) (v := ?_) rfl (by kernel_rfl) (by kernel_rfl) (by kernel_rfl) (fun _ _ _ h => h) (Or.inl ⟨by kernel_rfl, ?_⟩) (by assumption) ?_
        rotate_left
        · intro w hSw
          (try dsimp only at hSw)
          go_simp
          all_goals (with_reducible rfl)
        try simp only [Act.put, List.getElem_toArray, List.getElem_cons_zero, List.setIfInBounds_toArray, List.set_cons_zero, List.set_cons_succ]
        refine wpAnyH_take (i := 1) (v := ?_) rfl (by kernel_rfl) (by kernel_rfl) (by kernel_rfl) (fun _ _ _ h => h) (Or.inl ⟨by kernel_rfl, ?_⟩) (by assumption) ?_
        rotate_left
        · intro w hSw
          (try dsimp only at hSw)
          go_simp
          all_goals (with_reducible rfl)
        try simp only [Act.put, List.getElem_toArray, List.getElem_cons_zero, List.getElem_cons_succ, List.setIfInBounds_toArray, List.set_cons_zero, List.set_cons_succ]
        refine wpAnyH_take (i := 2) (v := ?_) rfl (by kernel_rfl) (by kernel_rfl) (by kernel_rfl) (fun _ _ _ h => h) (Or.inl ⟨by kernel_rfl, ?_⟩) (by assumption) ?_
        rotate_left
        · intro w hSw
          (try dsimp only at hSw)
          go_simp
          all_goals (with_reducible rfl)
        try simp only [Act.put, List.getElem_toArray, List.getElem_cons_zero, List.getElem_cons_succ, List.setIfInBounds_toArray, List.set_cons_zero, List.set_cons_succ]
        refine wpAnyH_take (i := 3) (v := ?_) rfl (by kernel_rfl) (by kernel_rfl) (by kernel_rfl) (fun _ _ _ h => h) (Or.inl ⟨by kernel_rfl, ?_⟩) (by assumption) ?_
        rotate_left
        · intro w hSw
          (try dsimp only at hSw)
          go_simp
          all_goals (with_reducible rfl)
        try simp only [Act.put, List.getElem_toArray, List.getElem_cons_zero, List.getElem_cons_succ, List.setIfInBounds_toArray, List.set_cons_zero, List.set_cons_succ]
        refine wpAnyH_take (i := 5) (v := ?_) rfl (by kernel_rfl) (by kernel_rfl) (by kernel_rfl) (fun _ _ _ h => h) (Or.inl ⟨by kernel_rfl, ?_⟩) (by assumption) ?_
        rotate_left
        · intro w hSw
          (try dsimp only at hSw)
          go_simp
          all_goals (with_reducible rfl)
        try simp only [Act.put, List.getElem_toArray, List.getElem_cons_zero, List.getElem_cons_succ, List.setIfInBounds_toArray, List.set_cons_zero, List.set_cons_succ]
        refine wpAnyH_ready (rs := [4]) (by kernel_rfl) (by simp) ?_
        refine AllReadyH.cons rfl (fun K hK => ?_) AllReadyH.nil
        go_simp
        go_at_call 35
        refine (valid_any a b v0).mono ?_
        rw [HKV.out]
        rintro e v1 ⟨rfl, hk⟩
        have HB_1 := Lib.hid hk
        go_wp2_with fail
        have HX_1 := Lib.hid (bt HX_0.out HB_1.out)
        have A_1 := Lib.hid ((A_0.out).new HB_1.out)
        have B_1 := Lib.hid ((B_0.out).new HB_1.out)
        refine hK.out _ _ (HS.out _ HX_1.out) (fun hHeld2 => ?_)
        clear hHeld
        have hHeld := hHeld2
        clear hHeld2 hK K hk HB_1 HX_0 A_0 B_0
        try simp only [Act.put, List.getElem_toArray, List.getElem_cons_zero, List.getElem_cons_succ, List.setIfInBounds_toArray, List.set_cons_zero, List.set_cons_succ]
        refine wpAnyH_take (i := 6) (v := ?_) rfl (by kernel_rfl) (by kernel_rfl) (by kernel_rfl) (fun _ _ _ h => h) (Or.inl ⟨by kernel_rfl, ?_⟩) (by assumption) ?_
        rotate_left
        · intro w hSw
          (try dsimp only at hSw)
          go_simp
          all_goals (with_reducible rfl)
        try simp only [Act.put, List.getElem_toArray, List.getElem_cons_zero, List.getElem_cons_succ, List.setIfInBounds_toArray, List.set_cons_zero, List.set_cons_succ]
        refine wpAnyH_take (i := 7) (v := ?_) rfl (by kernel_rfl) (by kernel_rfl) (by kernel_rfl) (fun _ _ _ h => h) (Or.inl ⟨by kernel_rfl, ?_⟩) (by assumption) ?_
        rotate_left
        · intro w hSw
          (try dsimp only at hSw)
          go_simp
          all_goals (with_reducible rfl)
        try simp only [Act.put, List.getElem_toArray, List.getElem_cons_zero, List.getElem_cons_succ, List.setIfInBounds_toArray, List.set_cons_zero, List.set_cons_succ]
        refine wpAnyH_take (i := 8) (v := ?_) rfl (by kernel_rfl) (by kernel_rfl) (by kernel_rfl) (fun _ _ _ h => h) (Or.inl ⟨by kernel_rfl, ?_⟩) (by assumption) ?_
        rotate_left
        · intro w hSw
          (try dsimp only at hSw)
          go_simp
          all_goals (with_reducible rfl)
        try simp only [Act.put, List.getElem_toArray, List.getElem_cons_zero, List.getElem_cons_succ, List.setIfInBounds_toArray, List.set_cons_zero, List.set_cons_succ]
        refine wpAnyH_take (i := 9) (v := ?_) rfl (by kernel_rfl) (by kernel_rfl) (by kernel_rfl) (fun _ _ _ h => h) (Or.inl ⟨by kernel_rfl, ?_⟩) (by assumption) ?_
        rotate_left
        · intro w hSw
          (try dsimp only at hSw)
          go_simp
          all_goals (with_reducible rfl)
        try simp only [Act.put, List.getElem_toArray, List.getElem_cons_zero, List.getElem_cons_succ, List.setIfInBounds_toArray, List.set_cons_zero, List.set_cons_succ]
        refine wpAnyH_take (i := 10) (v := ?_) rfl (by kernel_rfl) (by kernel_rfl) (by kernel_rfl) (fun _ _ _ h => h) (Or.inl ⟨by kernel_rfl, ?_⟩) (by assumption) ?_
        rotate_left
        · intro w hSw
          (try dsimp only at hSw)
          go_simp
          all_goals (with_reducible rfl)
        try simp only [Act.put, List.getElem_toArray, List.getElem_cons_zero, List.getElem_cons_succ, List.setIfInBounds_toArray, List.set_cons_zero, List.set_cons_succ]
        refine wpAnyH_take (i := 11) (v := ?_) rfl (by kernel_rfl) (by kernel_rfl) (by kernel_rfl) (fun _ _ _ h => h) (Or.inl ⟨by kernel_rfl, ?_⟩) (by assumption) ?_
        rotate_left
        · intro w hSw
          (try dsimp only at hSw)
          go_simp
          all_goals (with_reducible rfl)
        try simp only [Act.put, List.getElem_toArray, List.getElem_cons_zero, List.getElem_cons_succ, List.setIfInBounds_toArray, List.set_cons_zero, List.set_cons_succ]
        refine wpAnyH_take (i := 12) (v := ?_) rfl (by kernel_rfl) (by kernel_rfl) (by kernel_rfl) (fun _ _ _ h => h) (Or.inl ⟨by kernel_rfl, ?_⟩) (by assumption) ?_
        rotate_left
        · intro w hSw
          (try dsimp only at hSw)
          go_simp
          all_goals (with_reducible rfl)
        try simp only [Act.put, List.getElem_toArray, List.getElem_cons_zero, List.getElem_cons_succ, List.setIfInBounds_toArray, List.set_cons_zero, List.set_cons_succ]
        refine wpAnyH_take (i := 13) (v := ?_) rfl (by kernel_rfl) (by kernel_rfl) (by kernel_rfl) (fun _ _ _ h => h) (Or.inl ⟨by kernel_rfl, ?_⟩) (by assumption) ?_
        rotate_left
        · intro w hSw
          (try dsimp only at hSw)
          go_simp
          all_goals (with_reducible rfl)
        try simp only [Act.put, List.getElem_toArray, List.getElem_cons_zero, List.getElem_cons_succ, List.setIfInBounds_toArray, List.set_cons_zero, List.set_cons_succ]
        refine wpAnyH_take (i := 14) (v := ?_) rfl (by kernel_rfl) (by kernel_rfl) (by kernel_rfl) (fun _ _ _ h => h) (Or.inl ⟨by kernel_rfl, ?_⟩) (by assumption) ?_
        rotate_left
        · intro w hSw
          (try dsimp only at hSw)
          go_simp
          all_goals (with_reducible rfl)
        try simp only [Act.put, List.getElem_toArray, List.getElem_cons_zero, List.getElem_cons_succ, List.setIfInBounds_toArray, List.set_cons_zero, List.set_cons_succ]
        refine wpAnyH_take (i := 15) (v := ?_) rfl (by kernel_rfl) (by kernel_rfl) (by kernel_rfl) (fun _ _ _ h => h) (Or.inl ⟨by kernel_rfl, ?_⟩) (by assumption) ?_
        rotate_left
        · intro w hSw
          (try dsimp only at hSw)
          go_simp
          all_goals (with_reducible rfl)
        try simp only [Act.put, List.getElem_toArray, List.getElem_cons_zero, List.getElem_cons_succ, List.setIfInBounds_toArray, List.set_cons_zero, List.set_cons_succ]
        refine wpAnyH_take (i := 16) (v := ?_) rfl (by kernel_rfl) (by kernel_rfl) (by kernel_rfl) (fun _ _ _ h => h) (Or.inl ⟨by kernel_rfl, ?_⟩) (by assumption) ?_
        rotate_left
        · intro w hSw
          (try dsimp only at hSw)
          go_simp
          all_goals (with_reducible rfl)
        try simp only [Act.put, List.getElem_toArray, List.getElem_cons_zero, List.getElem_cons_succ, List.setIfInBounds_toArray, List.set_cons_zero, List.set_cons_succ]
        refine wpAnyH_take (i := 17) (v := ?_) rfl (by kernel_rfl) (by kernel_rfl) (by kernel_rfl) (fun _ _ _ h => h) (Or.inl ⟨by kernel_rfl, ?_⟩) (by assumption) ?_
        rotate_left
        · intro w hSw
          (try dsimp only at hSw)
          go_simp
          all_goals (with_reducible rfl)
        try simp only [Act.put, List.getElem_toArray, List.getElem_cons_zero, List.getElem_cons_succ, List.setIfInBounds_toArray, List.set_cons_zero, List.set_cons_succ]
        refine wpAnyH_take (i := 18) (v := ?_) rfl (by kernel_rfl) (by kernel_rfl) (by kernel_rfl) (fun _ _ _ h => h) (Or.inl ⟨by kernel_rfl, ?_⟩) (by assumption) ?_
        rotate_left
        · intro w hSw
          (try dsimp only at hSw)
          go_simp
          all_goals (with_reducible rfl)
        try simp only [Act.put, List.getElem_toArray, List.getElem_cons_zero, List.getElem_cons_succ, List.setIfInBounds_toArray, List.set_cons_zero, List.set_cons_succ]
        refine wpAnyH_take (i := 19) (v := ?_) rfl (by kernel_rfl) (by kernel_rfl) (by kernel_rfl) (fun _ _ _ h => h) (Or.inl ⟨by kernel_rfl, ?_⟩) (by assumption) ?_
        rotate_left
        · intro w hSw
          (try dsimp only at hSw)
          go_simp
          all_goals (with_reducible rfl)
        try simp only [Act.put, List.getElem_toArray, List.getElem_cons_zero, List.getElem_cons_succ, List.setIfInBounds_toArray, List.set_cons_zero, List.set_cons_succ]
        refine wpAnyH_take (i := 20) (v := ?_) rfl (by kernel_rfl) (by kernel_rfl) (by kernel_rfl) (fun _ _ _ h => h) (Or.inl ⟨by kernel_rfl, ?_⟩) (by assumption) ?_
        rotate_left
        · intro w hSw
          (try dsimp only at hSw)
          go_simp
          all_goals (with_reducible rfl)
        try simp only [Act.put, List.getElem_toArray, List.getElem_cons_zero, List.getElem_cons_succ, List.setIfInBounds_toArray, List.set_cons_zero, List.set_cons_succ]
        refine wpAnyH_take (i := 21) (v := ?_) rfl (by kernel_rfl) (by kernel_rfl) (by kernel_rfl) (fun _ _ _ h => h) (Or.inl ⟨by kernel_rfl, ?_⟩) (by assumption) ?_
        rotate_left
        · intro w hSw
          (try dsimp only at hSw)
          go_simp
          all_goals (with_reducible rfl)
        try simp only [Act.put, List.getElem_toArray, List.getElem_cons_zero, List.getElem_cons_succ, List.setIfInBounds_toArray, List.set_cons_zero, List.set_cons_succ]
        refine wpAnyH_take (i := 22) (v := ?_) rfl (by kernel_rfl) (by kernel_rfl) (by kernel_rfl) (fun _ _ _ h => h) (Or.inl ⟨by kernel_rfl, ?_⟩) (by assumption) ?_
        rotate_left
        · intro w hSw
          (try dsimp only at hSw)
          go_simp
          all_goals (with_reducible rfl)
        try simp only [Act.put, List.getElem_toArray, List.getElem_cons_zero, List.getElem_cons_succ, List.setIfInBounds_toArray, List.set_cons_zero, List.set_cons_succ]
        refine wpAnyH_take (i := 23) (v := ?_) rfl (by kernel_rfl) (by kernel_rfl) (by kernel_rfl) (fun _ _ _ h => h) (Or.inl ⟨by kernel_rfl, ?_⟩) (by assumption) ?_
        rotate_left
        · intro w hSw
          (try dsimp only at hSw)
          go_simp
          all_goals (with_reducible rfl)
        try simp only [Act.put, List.getElem_toArray, List.getElem_cons_zero, List.getElem_cons_succ, List.setIfInBounds_toArray, List.set_cons_zero, List.set_cons_succ]
        refine wpAnyH_take (i := 24) (v := ?_) rfl (by kernel_rfl) (by kernel_rfl) (by kernel_rfl) (fun _ _ _ h => h) (Or.inl ⟨by kernel_rfl, ?_⟩) (by assumption) ?_
        rotate_left
        · intro w hSw
          (try dsimp only at hSw)
          go_simp
          all_goals (with_reducible rfl)
        try simp only [Act.put, List.getElem_toArray, List.getElem_cons_zero, List.getElem_cons_succ, List.setIfInBounds_toArray, List.set_cons_zero, List.set_cons_succ]
        refine wpAnyH_take (i := 25) (v := ?_) rfl (by kernel_rfl) (by kernel_rfl) (by kernel_rfl) (fun _ _ _ h => h) (Or.inl ⟨by kernel_rfl, ?_⟩) (by assumption) ?_
        rotate_left
        · intro w hSw
          (try dsimp only at hSw)
          go_simp
          all_goals (with_reducible rfl)
        try simp only [Act.put, List.getElem_toArray, List.getElem_cons_zero, List.getElem_cons_succ, List.setIfInBounds_toArray, List.set_cons_zero, List.set_cons_succ]
        refine wpAnyH_take (i := 26) (v := ?_) rfl (by kernel_rfl) (by kernel_rfl) (by kernel_rfl) (fun _ _ _ h => h) (Or.inl ⟨by kernel_rfl, ?_⟩) (by assumption) ?_
        rotate_left
        · intro w hSw
          (try dsimp only at hSw)
          go_simp
          all_goals (with_reducible rfl)
        try simp only [Act.put, List.getElem_toArray, List.getElem_cons_zero, List.getElem_cons_succ, List.setIfInBounds_toArray, List.set_cons_zero, List.set_cons_succ]
        refine wpAnyH_take (i := 27) (v := ?_) rfl (by kernel_rfl) (by kernel_rfl) (by kernel_rfl) (fun _ _ _ h => h) (Or.inl ⟨by kernel_rfl, ?_⟩) (by assumption) ?_
        rotate_left
        · intro w hSw
          (try dsimp only at hSw)
          go_simp
          all_goals (with_reducible rfl)
        try simp only [Act.put, List.getElem_toArray, List.getElem_cons_zero, List.getElem_cons_succ, List.setIfInBounds_toArray, List.set_cons_zero, List.set_cons_succ]
        refine wpAnyH_take (i := 28) (v := undef) rfl (by kernel_rfl) (by kernel_rfl) (by kernel_rfl) (fun _ _ _ h => h) (Or.inr ⟨by kernel_rfl, rfl⟩) (by assumption) ?_
        try simp only [Act.put, List.getElem_toArray, List.getElem_cons_zero, List.getElem_cons_succ, List.setIfInBounds_toArray, List.set_cons_zero, List.set_cons_succ]
        refine wpAnyH_take (i := 29) (v := undef) rfl (by kernel_rfl) (by kernel_rfl) (by kernel_rfl) (fun _ _ _ h => h) (Or.inr ⟨by kernel_rfl, rfl⟩) (by assumption) ?_
        try simp only [Act.put, List.getElem_toArray, List.getElem_cons_zero, List.getElem_cons_succ, List.setIfInBounds_toArray, List.set_cons_zero, List.set_cons_succ]
        refine wpAnyH_take (i := 30) (v := undef) rfl (by kernel_rfl) (by kernel_rfl) (by kernel_rfl) (fun _ _ _ h => h) (Or.inr ⟨by kernel_rfl, rfl⟩) (by assumption) ?_
        try simp only [Act.put, List.getElem_toArray, List.getElem_cons_zero, List.getElem_cons_succ, List.setIfInBounds_toArray, List.set_cons_zero, List.set_cons_succ]
        refine wpAnyH_take (i := 31) (v := ?_) rfl (by kernel_rfl) (by kernel_rfl) (by kernel_rfl) (fun _ _ _ h => h) (Or.inl ⟨by kernel_rfl, ?_⟩) (by assumption) ?_
        rotate_left
        · intro w hSw
          (try dsimp only at hSw)
          go_simp
          all_goals (with_reducible rfl)
        try simp only [Act.put, List.getElem_toArray, List.getElem_cons_zero, List.getElem_cons_succ, List.setIfInBounds_toArray, List.set_cons_zero, List.set_cons_succ]
        refine wpAnyH_take (i := 32) (v := ?_) rfl (by kernel_rfl) (by kernel_rfl) (by kernel_rfl) (fun _ _ _ h => h) (Or.inl ⟨by kernel_rfl, ?_⟩) (by assumption) ?_
        rotate_left
        · intro w hSw
          (try dsimp only at hSw)
          go_simp
          all_goals (with_reducible rfl)
        try simp only [Act.put, List.getElem_toArray, List.getElem_cons_zero, List.getElem_cons_succ, List.setIfInBounds_toArray, List.set_cons_zero, List.set_cons_succ]
        refine wpAnyH_take (i := 33) (v := ?_) rfl (by kernel_rfl) (by kernel_rfl) (by kernel_rfl) (fun _ _ _ h => h) (Or.inl ⟨by kernel_rfl, ?_⟩) (by assumption) ?_
        rotate_left
        · intro w hSw
          (try dsimp only at hSw)
          go_simp
          all_goals (with_reducible rfl)
        try simp only [Act.put, List.getElem_toArray, List.getElem_cons_zero, List.getElem_cons_succ, List.setIfInBounds_toArray, List.set_cons_zero, List.set_cons_succ]
        refine wpAnyH_take (i := 34) (v := ?_) rfl (by kernel_rfl) (by kernel_rfl) (by kernel_rfl) (fun _ _ _ h => h) (Or.inl ⟨by kernel_rfl, ?_⟩) (by assumption) ?_
        rotate_left
        · intro w hSw
          (try dsimp only at hSw)
          go_simp
          all_goals (with_reducible rfl)
        try simp only [Act.put, List.getElem_toArray, List.getElem_cons_zero, List.getElem_cons_succ, List.setIfInBounds_toArray, List.set_cons_zero, List.set_cons_succ]
        refine wpAnyH_take (i := 35) (v := ?_) rfl (by kernel_rfl) (by kernel_rfl) (by kernel_rfl) (fun _ _ _ h => h) (Or.inl ⟨by kernel_rfl, ?_⟩) (by assumption) ?_
        rotate_left
        · intro w hSw
          (try dsimp only at hSw)
          go_simp
          all_goals (with_reducible rfl)
        try simp only [Act.put, List.getElem_toArray, List.getElem_cons_zero, List.getElem_cons_succ, List.setIfInBounds_toArray, List.set_cons_zero, List.set_cons_succ]
        refine wpAnyH_ready (rs := [36]) (by kernel_rfl) (by simp) ?_
        refine AllReadyH.cons rfl (fun K hK => ?_) AllReadyH.nil
        go_simp
        go_at_call 36
        refine (ptcompare_any a 1 b 1 a 1 b 1 s0 A0 n0 c0 t0 B0 m0 d0 s1 A1 n1 c1 t1 B1 m1 d1 s0 A0 n0 c0 t0 B0 m0 d0 s1 A1 n1 c1 t1 B1 m1 d1 v1 (A_1.out) (B_1.out) (A_1.out) (B_1.out) ⟨HLM.out.1, HLM.out.2, HLM.out.1, HLM.out.2⟩).mono ?_
        rw [pc_self]
        rintro e v2 ⟨rfl, hk⟩
        have HB_2 := Lib.hid hk
        go_wp2_with fail
        have HX_2 := Lib.hid (bt HX_1.out HB_2.out)
        have A_2 := Lib.hid ((A_1.out).new HB_2.out)
        have B_2 := Lib.hid ((B_1.out).new HB_2.out)
        refine hK.out _ _ (HS.out _ HX_2.out) (fun hHeld2 => ?_)
        clear hHeld
        have hHeld := hHeld2
        clear hHeld2 hK K hk HB_2 HX_1 A_1 B_1
        try simp only [Act.put, List.getElem_toArray, List.getElem_cons_zero, List.getElem_cons_succ, List.setIfInBounds_toArray, List.set_cons_zero, List.set_cons_succ]
        refine wpAnyH_take (i := 37) (v := ?_) rfl (by kernel_rfl) (by kernel_rfl) (by kernel_rfl) (fun _ _ _ h => h) (Or.inl ⟨by kernel_rfl, ?_⟩) (by assumption) ?_
        rotate_left
        · intro w hSw
          (try dsimp only at hSw)
          go_simp
          all_goals (with_reducible rfl)
        try simp only [Act.put, List.getElem_toArray, List.getElem_cons_zero, List.getElem_cons_succ, List.setIfInBounds_toArray, List.set_cons_zero, List.set_cons_succ]
        refine wpAnyH_take (i := 38) (v := ?_) rfl (by kernel_rfl) (by kernel_rfl) (by kernel_rfl) (fun _ _ _ h => h) (Or.inl ⟨by kernel_rfl, ?_⟩) (by assumption) ?_
        rotate_left
        · intro w hSw
          (try dsimp only at hSw)
          go_simp
          all_goals (with_reducible rfl)
        try simp only [Act.put, List.getElem_toArray, List.getElem_cons_zero, List.getElem_cons_succ, List.setIfInBounds_toArray, List.set_cons_zero, List.set_cons_succ]
        refine wpAnyH_done (by kernel_rfl) ?_ _
        clear hHeld
        have HL := Lib.hid HX_2.out
        go_wp2_with fail
        go_loopw [15] (fun tv wr => ∃ j : Nat, j ≤ 6 ∧ tv = .int .i64 (j : Int) ∧ Pts wr G ∧ Below w.heap.size w wr) (fun tv _ => 6 - (intOf tv).toNat)
        case atStart => exact ⟨0, by omega, rfl, pts_new HP3.out HL.out, bt HBW.out HL.out⟩
        case round =>
          obtain ⟨j, hj, rfl, hp, hbel⟩ := hrel
          have HP4 := Lib.hid hp
          have HB4 := Lib.hid hbel
          clear hp hbel
          by_cases hjl : j < 6
          · obtain ⟨c, d, f0, f1, _, _⟩ := HP4.out j hjl
            obtain ⟨a', b', g0, g1, _, _⟩ := HP4.out i hlt
            have h0j : (0 : Int) ≤ (j : Int) := by omega
            have hj6 : (j : Int) < 6 := by omega
            have HC4 := Lib.hid (And.intro g0 (And.intro g1 (And.intro f0 f1)))
            clear f0 f1 g0 g1
            go_wp2_with fail
            have HS4 : Hid (∀ w', Below wr.heap.size wr w' → w'.cell? ⟨G, i * 2, none⟩ = some (.int .i64 a') ∧ w'.cell? ⟨G, i * 2 + 1, none⟩ = some (.int .i64 b') ∧ w'.cell? ⟨G, j * 2, none⟩ = some (.int .i64 c) ∧ w'.cell? ⟨G, j * 2 + 1, none⟩ = some (.int .i64 d) ∧ Below wr.heap.size wr w') := Lib.hid (fun w' hb => ⟨keep3 hb HC4.out.1, keep3 hb HC4.out.2.1, keep3 hb HC4.out.2.2.1, keep3 hb HC4.out.2.2.2, hb⟩)
            have HX4 := Lib.hid (Below.refl wr.heap.size wr)
            obtain ⟨v0, hv0⟩ : ∃ z, World.drew wr = z := ⟨_, rfl⟩
            have HD0 := Lib.hid (show Below wr.heap.size wr v0 by rw [← hv0]; exact (Below.refl _ _).drew)
            have HX_0 := Lib.hid (bt HX4.out HD0.out)
            refine wp_region_held_drew (S := (fun w' : World => w'.cell? ⟨G, i * 2, none⟩ = some (.int .i64 a') ∧ w'.cell? ⟨G, i * 2 + 1, none⟩ = some (.int .i64 b') ∧ w'.cell? ⟨G, j * 2, none⟩ = some (.int .i64 c) ∧ w'.cell? ⟨G, j * 2 + 1, none⟩ = some (.int .i64 d) ∧ Below wr.heap.size wr w')) (by kernel_rfl) ?_ (fun hHeld => ?_)
            · rw [hv0]
              exact HS4.out _ HX_0.out
            rw [hv0] at hHeld ⊢
            clear hv0 HD0
            refine wpAnyH_take (i := 0) (v := ?_) rfl (by kernel_rfl) (by kernel_rfl) (by kernel_rfl) (fun _ _ _ h => h) (Or.inl ⟨by kernel_rfl, ?_⟩) (by assumption) ?_
            rotate_left
            · intro w hSw
              (try dsimp only at hSw)
              go_simp
              all_goals (with_reducible rfl)
            try simp only [Act.put, List.getElem_toArray, List.getElem_cons_zero, List.setIfInBounds_toArray, List.set_cons_zero, List.set_cons_succ]
            refine wpAnyH_take (i := 1) (v := ?_) rfl (by kernel_rfl) (by kernel_rfl) (by kernel_rfl) (fun _ _ _ h => h) (Or.inl ⟨by kernel_rfl, ?_⟩) (by assumption) ?_
            rotate_left
            · intro w hSw
              (try dsimp only at hSw)
              go_simp
              all_goals (with_reducible rfl)
            try simp only [Act.put, List.getElem_toArray, List.getElem_cons_zero, List.getElem_cons_succ, List.setIfInBounds_toArray, List.set_cons_zero, List.set_cons_succ]
            refine wpAnyH_take (i := 2) (v := ?_) rfl (by kernel_rfl) (by kernel_rfl) (by kernel_rfl) (fun _ _ _ h => h) (Or.inl ⟨by kernel_rfl, ?_⟩) (by assumption) ?_
            rotate_left
            · intro w hSw
              (try dsimp only at hSw)
              go_simp
              all_goals (with_reducible rfl)
            try simp only [Act.put, List.getElem_toArray, List.getElem_cons_zero, List.getElem_cons_succ, List.setIfInBounds_toArray, List.set_cons_zero, List.set_cons_succ]
            refine wpAnyH_take (i := 3) (v := ?_) rfl (by kernel_rfl) (by kernel_rfl) (by kernel_rfl) (fun _ _ _ h => h) (Or.inl ⟨by kernel_rfl, ?_⟩) (by assumption) ?_
            rotate_left
            · intro w hSw
              (try dsimp only at hSw)
              go_simp
              all_goals (with_reducible rfl)
            try simp only [Act.put, List.getElem_toArray, List.getElem_cons_zero, List.getElem_cons_succ, List.setIfInBounds_toArray, List.set_cons_zero, List.set_cons_succ]
            refine wpAnyH_take (i := 4) (v := ?_) rfl (by kernel_rfl) (by kernel_rfl) (by kernel_rfl) (fun _ _ _ h => h) (Or.inl ⟨by kernel_rfl, ?_⟩) (by assumption) ?_
            rotate_left
            · intro w hSw
              (try dsimp only at hSw)
              go_simp
              all_goals (with_reducible rfl)
            try simp only [Act.put, List.getElem_toArray, List.getElem_cons_zero, List.getElem_cons_succ, List.setIfInBounds_toArray, List.set_cons_zero, List.set_cons_succ]
            refine wpAnyH_take (i := 5) (v := ?_) rfl (by kernel_rfl) (by kernel_rfl) (by kernel_rfl) (fun _ _ _ h => h) (Or.inl ⟨by kernel_rfl, ?_⟩) (by assumption) ?_
            rotate_left
            · intro w hSw
              (try dsimp only at hSw)
              go_simp
              all_goals (with_reducible rfl)
            try simp only [Act.put, List.getElem_toArray, List.getElem_cons_zero, List.getElem_cons_succ, List.setIfInBounds_toArray, List.set_cons_zero, List.set_cons_succ]
            refine wpAnyH_take (i := 6) (v := ?_) rfl (by kernel_rfl) (by kernel_rfl) (by kernel_rfl) (fun _ _ _ h => h) (Or.inl ⟨by kernel_rfl, ?_⟩) (by assumption) ?_
            rotate_left
            · intro w hSw
              (try dsimp only at hSw)
              go_simp
              all_goals (with_reducible rfl)
            try simp only [Act.put, List.getElem_toArray, List.getElem_cons_zero, List.getElem_cons_succ, List.setIfInBounds_toArray, List.set_cons_zero, List.set_cons_succ]
            refine wpAnyH_take (i := 7) (v := ?_) rfl (by kernel_rfl) (by kernel_rfl) (by kernel_rfl) (fun _ _ _ h => h) (Or.inl ⟨by kernel_rfl, ?_⟩) (by assumption) ?_
            rotate_left
            · intro w hSw
              (try dsimp only at hSw)
              go_simp
              all_goals (with_reducible rfl)
            try simp only [Act.put, List.getElem_toArray, List.getElem_cons_zero, List.getElem_cons_succ, List.setIfInBounds_toArray, List.set_cons_zero, List.set_cons_succ]
            refine wpAnyH_take (i := 8) (v := ?_) rfl (by kernel_rfl) (by kernel_rfl) (by kernel_rfl) (fun _ _ _ h => h) (Or.inl ⟨by kernel_rfl, ?_⟩) (by assumption) ?_
            rotate_left
            · intro w hSw
              (try dsimp only at hSw)
              go_simp
              all_goals (with_reducible rfl)
            try simp only [Act.put, List.getElem_toArray, List.getElem_cons_zero, List.getElem_cons_succ, List.setIfInBounds_toArray, List.set_cons_zero, List.set_cons_succ]
            refine wpAnyH_ready (rs := [9]) (by kernel_rfl) (by simp) ?_
            refine AllReadyH.cons rfl (fun K hK => ?_) AllReadyH.nil
            go_simp
            have HB_1 := Lib.hid ((Below.refl v0.heap.size v0).alloc (Nat.le_refl _) (.cells #[.int .i64 0, .int .i64 0, .int .i64 0, .int .i64 0] 67))
            have HP_q_1 := Lib.hid (P4.lit v0 67 (.int .i64 0) (.int .i64 0) (.int .i64 0) (.int .i64 0))
            obtain ⟨v1, hV⟩ : ∃ z, World.alloc v0 (.cells #[.int .i64 0, .int .i64 0, .int .i64 0, .int .i64 0] 67) = z := ⟨_, rfl⟩
            obtain ⟨gq, hg⟩ : ∃ z, v0.heap.size = z := ⟨_, rfl⟩
            rw [hV] at HB_1 HP_q_1  ⊢
            rw [hg] at HP_q_1  ⊢
            have HG_q := Lib.hid (show wr.heap.size ≤ gq by rw [← hg]; exact HX_0.out.size)
            have HX_1 := Lib.hid (bt HX_0.out HB_1.out)
            refine hK.out _ _ (HS4.out _ HX_1.out) (fun hHeld2 => ?_)
            clear hHeld
            have hHeld := hHeld2
            clear hHeld2 hK K hV hg HB_1 HX_0
            try simp only [Act.put, List.getElem_toArray, List.getElem_cons_zero, List.getElem_cons_succ, List.setIfInBounds_toArray, List.set_cons_zero, List.set_cons_succ]
            refine wpAnyH_ready (rs := [10]) (by kernel_rfl) (by simp) ?_
            refine AllReadyH.cons rfl (fun K hK => ?_) AllReadyH.nil
            obtain ⟨z0, z1, z2, z3⟩ := HP_q_1.out.cells
            have y0 := HP_q_1.out.frozen 0
            have y1 := HP_q_1.out.frozen 1
            have y2 := HP_q_1.out.frozen 2
            have y3 := HP_q_1.out.frozen 3
            have z9 := HP_q_1.out.lt
            go_simp
            obtain ⟨v2, hV⟩ : ∃ z, World.setCell (World.setCell (World.setCell (World.setCell v1 ⟨gq, 0, none⟩ (.int .i64 a')) ⟨gq, 1, none⟩ (.int .i64 b')) ⟨gq, 2, none⟩ (.int .i64 c)) ⟨gq, 3, none⟩ (.int .i64 d) = z := ⟨_, rfl⟩
            rw [hV]
            have HX_2 := Lib.hid (show Below wr.heap.size wr v2 by rw [← hV]; exact below_box4 HX_1.out (HG_q.out) _ _ _ _)
            have HP_q_2 := Lib.hid (show P4 67 v2 gq (.int .i64 a') (.int .i64 b') (.int .i64 c) (.int .i64 d) by rw [← hV]; exact HP_q_1.out.all (.int .i64 a') (.int .i64 b') (.int .i64 c) (.int .i64 d))
            refine hK.out _ _ (HS4.out _ HX_2.out) (fun hHeld2 => ?_)
            clear hHeld
            have hHeld := hHeld2
            clear hHeld2 hK K hV z9 z0 z1 z2 z3 y0 y1 y2 y3 HX_1 HP_q_1
            try simp only [Act.put, List.getElem_toArray, List.getElem_cons_zero, List.getElem_cons_succ, List.setIfInBounds_toArray, List.set_cons_zero, List.set_cons_succ]
            refine wpAnyH_done (by kernel_rfl) ?_ _
            clear hHeld
            have HYB := Lib.hid HX_2.out
            obtain ⟨yb, hyb⟩ : ∃ z, z = v2 := ⟨_, rfl⟩
            subst hyb
            have HS5 : Hid (∀ w', Below yb.heap.size yb w' → (fun w' : World => w'.cell? ⟨gq, 0, none⟩ = some (.int .i64 a') ∧ w'.cell? ⟨gq, 1, none⟩ = some (.int .i64 b') ∧ w'.cell? ⟨gq, 2, none⟩ = some (.int .i64 c) ∧ w'.cell? ⟨gq, 3, none⟩ = some (.int .i64 d) ∧ Below yb.heap.size yb w') w') := Lib.hid (fun w' hb => ⟨(HP_q_2.out.new hb).cells.1, (HP_q_2.out.new hb).cells.2.1, (HP_q_2.out.new hb).cells.2.2.1, (HP_q_2.out.new hb).cells.2.2.2, hb⟩)
            have HXY := Lib.hid (Below.refl yb.heap.size yb)
            obtain ⟨vb, hvb⟩ : ∃ z, vbC a' b' c d = z := ⟨_, rfl⟩
            have HVB := Lib.hid hvb
            clear hvb
            go_wp2_with fail
            obtain ⟨v0, hv0⟩ : ∃ z, World.drew yb = z := ⟨_, rfl⟩
            have HD0 := Lib.hid (show Below yb.heap.size yb v0 by rw [← hv0]; exact (Below.refl _ _).drew)
            have HX_0 := Lib.hid (bt HXY.out HD0.out)
            refine wp_region_held_drew (S := (fun w' : World => w'.cell? ⟨gq, 0, none⟩ = some (.int .i64 a') ∧ w'.cell? ⟨gq, 1, none⟩ = some (.int .i64 b') ∧ w'.cell? ⟨gq, 2, none⟩ = some (.int .i64 c) ∧ w'.cell? ⟨gq, 3, none⟩ = some (.int .i64 d) ∧ Below yb.heap.size yb w')) (by kernel_rfl) ?_ (fun hHeld => ?_)
            · rw [hv0]
              exact HS5.out _ HX_0.out
            rw [hv0] at hHeld ⊢
            clear hv0 HD0
            refine wpAnyH_take (i := 0) (v := ?_) rfl (by kernel_rfl) (by kernel_rfl) (by kernel_rfl) (fun _ _ _ h => h) (Or.inl ⟨by kernel_rfl, ?_⟩) (by assumption) ?_
            rotate_left
            · intro w hSw
              (try dsimp only at hSw)
              go_simp
              all_goals (with_reducible rfl)
            try simp only [Act.put, List.getElem_toArray, List.getElem_cons_zero, List.setIfInBounds_toArray, List.set_cons_zero, List.set_cons_succ]
            refine wpAnyH_take (i := 2) (v := ?_) rfl (by kernel_rfl) (by kernel_rfl) (by kernel_rfl) (fun _ _ _ h => h) (Or.inl ⟨by kernel_rfl, ?_⟩) (by assumption) ?_
            rotate_left
            · intro w hSw
              (try dsimp only at hSw)
              go_simp
              all_goals (with_reducible rfl)
            try simp only [Act.put, List.getElem_toArray, List.getElem_cons_zero, List.getElem_cons_succ, List.setIfInBounds_toArray, List.set_cons_zero, List.set_cons_succ]
            refine wpAnyH_ready (rs := [1]) (by kernel_rfl) (by simp) ?_
            refine AllReadyH.cons rfl (fun K hK => ?_) AllReadyH.nil
            go_simp
            go_at_call 37
            refine (validbox_any a' b' c d v0).mono ?_
            rw [HVB.out]
            rintro e v1 ⟨rfl, hk⟩
            have HB_1 := Lib.hid hk
            go_wp2_with fail
            have HX_1 := Lib.hid (bt HX_0.out HB_1.out)
            refine hK.out _ _ (HS5.out _ HX_1.out) (fun hHeld2 => ?_)
            clear hHeld
            have hHeld := hHeld2
            clear hHeld2 hK K hk HB_1 HX_0
            try simp only [Act.put, List.getElem_toArray, List.getElem_cons_zero, List.getElem_cons_succ, List.setIfInBounds_toArray, List.set_cons_zero, List.set_cons_succ]
            refine wpAnyH_ready (rs := [3]) (by kernel_rfl) (by simp) ?_
            refine AllReadyH.cons rfl (fun K hK => ?_) AllReadyH.nil
            go_simp
            go_at_call 38
            refine (goodbox_any a' b' c d v1).mono ?_
            rw [HVB.out]
            rintro e v2 ⟨rfl, hk⟩
            have HB_2 := Lib.hid hk
            go_wp2_with fail
            have HX_2 := Lib.hid (bt HX_1.out HB_2.out)
            refine hK.out _ _ (HS5.out _ HX_2.out) (fun hHeld2 => ?_)
            clear hHeld
            have hHeld := hHeld2
            clear hHeld2 hK K hk HB_2 HX_1
            try simp only [Act.put, List.getElem_toArray, List.getElem_cons_zero, List.getElem_cons_succ, List.setIfInBounds_toArray, List.set_cons_zero, List.set_cons_succ]
            refine wpAnyH_take (i := 4) (v := ?_) rfl (by kernel_rfl) (by kernel_rfl) (by kernel_rfl) (fun _ _ _ h => h) (Or.inl ⟨by kernel_rfl, ?_⟩) (by assumption) ?_
            rotate_left
            · intro w hSw
              (try dsimp only at hSw)
              go_simp
              all_goals (with_reducible rfl)
            try simp only [Act.put, List.getElem_toArray, List.getElem_cons_zero, List.getElem_cons_succ, List.setIfInBounds_toArray, List.set_cons_zero, List.set_cons_succ]
            refine wpAnyH_done (by kernel_rfl) ?_ _
            clear hHeld
            have HL5 := Lib.hid (bt HYB.out HX_2.out)
            go_wp2
            go_roundw
            case rel => exact ⟨j + 1, by omega, by go_num, pts_new HP4.out HL5.out, bt HB4.out HL5.out⟩
            case measure => simp [intOf]; omega
          · obtain rfl : j = 6 := by omega
            go_wp2
            go_roundw
            case rel => exact ⟨i + 1, by omega, by go_num, HP4.out, HB4.out⟩
            case measure => simp [intOf]; omega
      · subst hk0
        obtain ⟨hX, hY⟩ := HPW.out.2 (by decide)
        have hX' := hX.symm
        have hY' := hY.symm
        clear hX hY
        subst hX' hY'
        have HS : Hid (∀ w', Below x3.heap.size x3 w' → (fun w' : World => w'.cell? ⟨G, i * 2, none⟩ = some (.int .i64 a) ∧ w'.cell? ⟨G, i * 2 + 1, none⟩ = some (.int .i64 b) ∧ w'.cell? ⟨f, 0, none⟩ = some (.int .i64 0) ∧ w'.cell? ⟨f, 1, none⟩ = some (.int .i64 0) ∧ w'.cell? ⟨g, 0, none⟩ = some (.bool s0) ∧ w'.cell? ⟨g, 1, none⟩ = some (.slice A0 n0 c0) ∧ w'.cell? ⟨g, 2, none⟩ = some (.bool t0) ∧ w'.cell? ⟨g, 3, none⟩ = some (.slice B0 m0 d0) ∧ w'.cell? ⟨g, 4, none⟩ = some (.bool s1) ∧ w'.cell? ⟨g, 5, none⟩ = some (.slice A1 n1 c1) ∧ w'.cell? ⟨g, 6, none⟩ = some (.bool t1) ∧ w'.cell? ⟨g, 7, none⟩ = some (.slice B1 m1 d1) ∧ Below x3.heap.size x3 w') w') := Lib.hid (fun w' hb => ⟨keep3 hb HE3.out.1, keep3 hb HE3.out.2, (HQ3.out.new hb).cells.1, (HQ3.out.new hb).cells.2, (HQ23.out.new hb).cells.1.1, (HQ23.out.new hb).cells.1.2.1, (HQ23.out.new hb).cells.1.2.2.1, (HQ23.out.new hb).cells.1.2.2.2, (HQ23.out.new hb).cells.2.1, (HQ23.out.new hb).cells.2.2.1, (HQ23.out.new hb).cells.2.2.2.1, (HQ23.out.new hb).cells.2.2.2.2, hb⟩)
        have HXX := Lib.hid (Below.refl x3.heap.size x3)
        clear HPW
        obtain ⟨v0, hv0⟩ : ∃ z, World.drew x3 = z := ⟨_, rfl⟩
        have HD0 := Lib.hid (show Below x3.heap.size x3 v0 by rw [← hv0]; exact (Below.refl _ _).drew)
        have HX_0 := Lib.hid (bt HXX.out HD0.out)
        have A_0 := Lib.hid ((H03.out).new HD0.out)
        have B_0 := Lib.hid ((H13.out).new HD0.out)
        refine wp_region_held_drew (S := (fun w' : World => w'.cell? ⟨G, i * 2, none⟩ = some (.int .i64 a) ∧ w'.cell? ⟨G, i * 2 + 1, none⟩ = some (.int .i64 b) ∧ w'.cell? ⟨f, 0, none⟩ = some (.int .i64 0) ∧ w'.cell? ⟨f, 1, none⟩ = some (.int .i64 0) ∧ w'.cell? ⟨g, 0, none⟩ = some (.bool s0) ∧ w'.cell? ⟨g, 1, none⟩ = some (.slice A0 n0 c0) ∧ w'.cell? ⟨g, 2, none⟩ = some (.bool t0) ∧ w'.cell? ⟨g, 3, none⟩ = some (.slice B0 m0 d0) ∧ w'.cell? ⟨g, 4, none⟩ = some (.bool s1) ∧ w'.cell? ⟨g, 5, none⟩ = some (.slice A1 n1 c1) ∧ w'.cell? ⟨g, 6, none⟩ = some (.bool t1) ∧ w'.cell? ⟨g, 7, none⟩ = some (.slice B1 m1 d1) ∧ Below x3.heap.size x3 w')) (by kernel_rfl) ?_ (fun hHeld => ?_)
        · rw [hv0]
          exact HS.out _ HX_0.out
        rw [hv0] at hHeld ⊢
        clear hv0 HD0
        refine wpAnyH_take (i := 0) (v := ?_) rfl (by kernel_rfl) (by kernel_rfl) (by kernel_rfl) (fun _ _ _ h => h) (Or.inl ⟨by kernel_rfl, ?_⟩) (by assumption) ?_
        rotate_left
        · intro w hSw
          (try dsimp only at hSw)
          go_simp
          all_goals (with_reducible rfl)
        try simp only [Act.put, List.getElem_toArray, List.getElem_cons_zero, List.setIfInBounds_toArray, List.set_cons_zero, List.set_cons_succ]
        refine wpAnyH_take (i := 1) (v := ?_) rfl (by kernel_rfl) (by kernel_rfl) (by kernel_rfl) (fun _ _ _ h => h) (Or.inl ⟨by kernel_rfl, ?_⟩) (by assumption) ?_
        rotate_left
        · intro w hSw
          (try dsimp only at hSw)
          go_simp
          all_goals (with_reducible rfl)
        try simp only [Act.put, List.getElem_toArray, List.getElem_cons_zero, List.getElem_cons_succ, List.setIfInBounds_toArray, List.set_cons_zero, List.set_cons_succ]
        refine wpAnyH_take (i := 2) (v := ?_) rfl (by kernel_rfl) (by kernel_rfl) (by kernel_rfl) (fun _ _ _ h => h) (Or.inl ⟨by kernel_rfl, ?_⟩) (by assumption) ?_
        rotate_left
        · intro w hSw
          (try dsimp only at hSw)
          go_simp
          all_goals (with_reducible rfl)
        try simp only [Act.put, List.getElem_toArray, List.getElem_cons_zero, List.getElem_cons_succ, List.setIfInBounds_toArray, List.set_cons_zero, List.set_cons_succ]
        refine wpAnyH_take (i := 3) (v := ?_) rfl (by kernel_rfl) (by kernel_rfl) (by kernel_rfl) (fun _ _ _ h => h) (Or.inl ⟨by kernel_rfl, ?_⟩) (by assumption) ?_
        rotate_left
        · intro w hSw
          (try dsimp only at hSw)
          go_simp
          all_goals (with_reducible rfl)
        try simp only [Act.put, List.getElem_toArray, List.getElem_cons_zero, List.getElem_cons_succ, List.setIfInBounds_toArray, List.set_cons_zero, List.set_cons_succ]
        refine wpAnyH_take (i := 5) (v := ?_) rfl (by kernel_rfl) (by kernel_rfl) (by kernel_rfl) (fun _ _ _ h => h) (Or.inl ⟨by kernel_rfl, ?_⟩) (by assumption) ?_
        rotate_left
        · intro w hSw
          (try dsimp only at hSw)
          go_simp
          all_goals (with_reducible rfl)
        try simp only [Act.put, List.getElem_toArray, List.getElem_cons_zero, List.getElem_cons_succ, List.setIfInBounds_toArray, List.set_cons_zero, List.set_cons_succ]
        refine wpAnyH_ready (rs := [4]) (by kernel_rfl) (by simp) ?_
        refine AllReadyH.cons rfl (fun K hK => ?_) AllReadyH.nil
        go_simp
        go_at_call 35
        refine (valid_any a b v0).mono ?_
        rw [HKV.out]
        rintro e v1 ⟨rfl, hk⟩
        have HB_1 := Lib.hid hk
        go_wp2_with fail
        have HX_1 := Lib.hid (bt HX_0.out HB_1.out)
        have A_1 := Lib.hid ((A_0.out).new HB_1.out)
        have B_1 := Lib.hid ((B_0.out).new HB_1.out)
        refine hK.out _ _ (HS.out _ HX_1.out) (fun hHeld2 => ?_)
        clear hHeld
        have hHeld := hHeld2
        clear hHeld2 hK K hk HB_1 HX_0 A_0 B_0
        try simp only [Act.put, List.getElem_toArray, List.getElem_cons_zero, List.getElem_cons_succ, List.setIfInBounds_toArray, List.set_cons_zero, List.set_cons_succ]
        refine wpAnyH_take (i := 6) (v := ?_) rfl (by kernel_rfl) (by kernel_rfl) (by kernel_rfl) (fun _ _ _ h => h) (Or.inl ⟨by kernel_rfl, ?_⟩) (by assumption) ?_
        rotate_left
        · intro w hSw
          (try dsimp only at hSw)
          go_simp
          all_goals (with_reducible rfl)
        try simp only [Act.put, List.getElem_toArray, List.getElem_cons_zero, List.getElem_cons_succ, List.setIfInBounds_toArray, List.set_cons_zero, List.set_cons_succ]
        refine wpAnyH_take (i := 7) (v := ?_) rfl (by kernel_rfl) (by kernel_rfl) (by kernel_rfl) (fun _ _ _ h => h) (Or.inl ⟨by kernel_rfl, ?_⟩) (by assumption) ?_
        rotate_left
        · intro w hSw
          (try dsimp only at hSw)
          go_simp
          all_goals (with_reducible rfl)
        try simp only [Act.put, List.getElem_toArray, List.getElem_cons_zero, List.getElem_cons_succ, List.setIfInBounds_toArray, List.set_cons_zero, List.set_cons_succ]
        refine wpAnyH_take (i := 8) (v := ?_) rfl (by kernel_rfl) (by kernel_rfl) (by kernel_rfl) (fun _ _ _ h => h) (Or.inl ⟨by kernel_rfl, ?_⟩) (by assumption) ?_
        rotate_left
        · intro w hSw
          (try dsimp only at hSw)
          go_simp
          all_goals (with_reducible rfl)
        try simp only [Act.put, List.getElem_toArray, List.getElem_cons_zero, List.getElem_cons_succ, List.setIfInBounds_toArray, List.set_cons_zero, List.set_cons_succ]
        refine wpAnyH_take (i := 9) (v := ?_) rfl (by kernel_rfl) (by kernel_rfl) (by kernel_rfl) (fun _ _ _ h => h) (Or.inl ⟨by kernel_rfl, ?_⟩) (by assumption) ?_
        rotate_left
        · intro w hSw
          (try dsimp only at hSw)
          go_simp
          all_goals (with_reducible rfl)
        try simp only [Act.put, List.getElem_toArray, List.getElem_cons_zero, List.getElem_cons_succ, List.setIfInBounds_toArray, List.set_cons_zero, List.set_cons_succ]
        refine wpAnyH_take (i := 10) (v := ?_) rfl (by kernel_rfl) (by kernel_rfl) (by kernel_rfl) (fun _ _ _ h => h) (Or.inl ⟨by kernel_rfl, ?_⟩) (by assumption) ?_
        rotate_left
        · intro w hSw
          (try dsimp only at hSw)
          go_simp
          all_goals (with_reducible rfl)
        try simp only [Act.put, List.getElem_toArray, List.getElem_cons_zero, List.getElem_cons_succ, List.setIfInBounds_toArray, List.set_cons_zero, List.set_cons_succ]
        refine wpAnyH_take (i := 11) (v := ?_) rfl (by kernel_rfl) (by kernel_rfl) (by kernel_rfl) (fun _ _ _ h => h) (Or.inl ⟨by kernel_rfl, ?_⟩) (by assumption) ?_
        rotate_left
        · intro w hSw
          (try dsimp only at hSw)
          go_simp
          all_goals (with_reducible rfl)
        try simp only [Act.put, List.getElem_toArray, List.getElem_cons_zero, List.getElem_cons_succ, List.setIfInBounds_toArray, List.set_cons_zero, List.set_cons_succ]
        refine wpAnyH_take (i := 12) (v := ?_) rfl (by kernel_rfl) (by kernel_rfl) (by kernel_rfl) (fun _ _ _ h => h) (Or.inl ⟨by kernel_rfl, ?_⟩) (by assumption) ?_
        rotate_left
        · intro w hSw
          (try dsimp only at hSw)
          go_simp
          all_goals (with_reducible rfl)
        try simp only [Act.put, List.getElem_toArray, List.getElem_cons_zero, List.getElem_cons_succ, List.setIfInBounds_toArray, List.set_cons_zero, List.set_cons_succ]
        refine wpAnyH_take (i := 13) (v := ?_) rfl (by kernel_rfl) (by kernel_rfl) (by kernel_rfl) (fun _ _ _ h => h) (Or.inl ⟨by kernel_rfl, ?_⟩) (by assumption) ?_
        rotate_left
        · intro w hSw
          (try dsimp only at hSw)
          go_simp
          all_goals (with_reducible rfl)
        try simp only [Act.put, List.getElem_toArray, List.getElem_cons_zero, List.getElem_cons_succ, List.setIfInBounds_toArray, List.set_cons_zero, List.set_cons_succ]
        refine wpAnyH_take (i := 14) (v := ?_) rfl (by kernel_rfl) (by kernel_rfl) (by kernel_rfl) (fun _ _ _ h => h) (Or.inl ⟨by kernel_rfl, ?_⟩) (by assumption) ?_
        rotate_left
        · intro w hSw
          (try dsimp only at hSw)
          go_simp
          all_goals (with_reducible rfl)
        try simp only [Act.put, List.getElem_toArray, List.getElem_cons_zero, List.getElem_cons_succ, List.setIfInBounds_toArray, List.set_cons_zero, List.set_cons_succ]
        refine wpAnyH_take (i := 15) (v := ?_) rfl (by kernel_rfl) (by kernel_rfl) (by kernel_rfl) (fun _ _ _ h => h) (Or.inl ⟨by kernel_rfl, ?_⟩) (by assumption) ?_
        rotate_left
        · intro w hSw
          (try dsimp only at hSw)
          go_simp
          all_goals (with_reducible rfl)
        try simp only [Act.put, List.getElem_toArray, List.getElem_cons_zero, List.getElem_cons_succ, List.setIfInBounds_toArray, List.set_cons_zero, List.set_cons_succ]
        refine wpAnyH_take (i := 16) (v := undef) rfl (by kernel_rfl) (by kernel_rfl) (by kernel_rfl) (fun _ _ _ h => h) (Or.inr ⟨by kernel_rfl, rfl⟩) (by assumption) ?_
        try simp only [Act.put, List.getElem_toArray, List.getElem_cons_zero, List.getElem_cons_succ, List.setIfInBounds_toArray, List.set_cons_zero, List.set_cons_succ]
        refine wpAnyH_take (i := 17) (v := undef) rfl (by kernel_rfl) (by kernel_rfl) (by kernel_rfl) (fun _ _ _ h => h) (Or.inr ⟨by kernel_rfl, rfl⟩) (by assumption) ?_
        try simp only [Act.put, List.getElem_toArray, List.getElem_cons_zero, List.getElem_cons_succ, List.setIfInBounds_toArray, List.set_cons_zero, List.set_cons_succ]
        refine wpAnyH_take (i := 18) (v := undef) rfl (by kernel_rfl) (by kernel_rfl) (by kernel_rfl) (fun _ _ _ h => h) (Or.inr ⟨by kernel_rfl, rfl⟩) (by assumption) ?_
        try simp only [Act.put, List.getElem_toArray, List.getElem_cons_zero, List.getElem_cons_succ, List.setIfInBounds_toArray, List.set_cons_zero, List.set_cons_succ]
        refine wpAnyH_take (i := 19) (v := undef) rfl (by kernel_rfl) (by kernel_rfl) (by kernel_rfl) (fun _ _ _ h => h) (Or.inr ⟨by kernel_rfl, rfl⟩) (by assumption) ?_
        try simp only [Act.put, List.getElem_toArray, List.getElem_cons_zero, List.getElem_cons_succ, List.setIfInBounds_toArray, List.set_cons_zero, List.set_cons_succ]
        refine wpAnyH_take (i := 20) (v := undef) rfl (by kernel_rfl) (by kernel_rfl) (by kernel_rfl) (fun _ _ _ h => h) (Or.inr ⟨by kernel_rfl, rfl⟩) (by assumption) ?_
        try simp only [Act.put, List.getElem_toArray, List.getElem_cons_zero, List.getElem_cons_succ, List.setIfInBounds_toArray, List.set_cons_zero, List.set_cons_succ]
        refine wpAnyH_take (i := 21) (v := undef) rfl (by kernel_rfl) (by kernel_rfl) (by kernel_rfl) (fun _ _ _ h => h) (Or.inr ⟨by kernel_rfl, rfl⟩) (by assumption) ?_
        try simp only [Act.put, List.getElem_toArray, List.getElem_cons_zero, List.getElem_cons_succ, List.setIfInBounds_toArray, List.set_cons_zero, List.set_cons_succ]
        refine wpAnyH_take (i := 22) (v := ?_) rfl (by kernel_rfl) (by kernel_rfl) (by kernel_rfl) (fun _ _ _ h => h) (Or.inl ⟨by kernel_rfl, ?_⟩) (by assumption) ?_
        rotate_left
        · intro w hSw
          (try dsimp only at hSw)
          go_simp
          all_goals (with_reducible rfl)
        try simp only [Act.put, List.getElem_toArray, List.getElem_cons_zero, List.getElem_cons_succ, List.setIfInBounds_toArray, List.set_cons_zero, List.set_cons_succ]
        refine wpAnyH_take (i := 23) (v := ?_) rfl (by kernel_rfl) (by kernel_rfl) (by kernel_rfl) (fun _ _ _ h => h) (Or.inl ⟨by kernel_rfl, ?_⟩) (by assumption) ?_
        rotate_left
        · intro w hSw
          (try dsimp only at hSw)
          go_simp
          all_goals (with_reducible rfl)
        try simp only [Act.put, List.getElem_toArray, List.getElem_cons_zero, List.getElem_cons_succ, List.setIfInBounds_toArray, List.set_cons_zero, List.set_cons_succ]
        refine wpAnyH_take (i := 24) (v := ?_) rfl (by kernel_rfl) (by kernel_rfl) (by kernel_rfl) (fun _ _ _ h => h) (Or.inl ⟨by kernel_rfl, ?_⟩) (by assumption) ?_
        rotate_left
        · intro w hSw
          (try dsimp only at hSw)
          go_simp
          all_goals (with_reducible rfl)
        try simp only [Act.put, List.getElem_toArray, List.getElem_cons_zero, List.getElem_cons_succ, List.setIfInBounds_toArray, List.set_cons_zero, List.set_cons_succ]
        refine wpAnyH_take (i := 25) (v := ?_) rfl (by kernel_rfl) (by kernel_rfl) (by kernel_rfl) (fun _ _ _ h => h) (Or.inl ⟨by kernel_rfl, ?_⟩) (by assumption) ?_
        rotate_left
        · intro w hSw
          (try dsimp only at hSw)
          go_simp
          all_goals (with_reducible rfl)
        try simp only [Act.put, List.getElem_toArray, List.getElem_cons_zero, List.getElem_cons_succ, List.setIfInBounds_toArray, List.set_cons_zero, List.set_cons_succ]
        refine wpAnyH_take (i := 26) (v := ?_) rfl (by kernel_rfl) (by kernel_rfl) (by kernel_rfl) (fun _ _ _ h => h) (Or.inl ⟨by kernel_rfl, ?_⟩) (by assumption) ?_
        rotate_left
        · intro w hSw
          (try dsimp only at hSw)
          go_simp
          all_goals (with_reducible rfl)
        try simp only [Act.put, List.getElem_toArray, List.getElem_cons_zero, List.getElem_cons_succ, List.setIfInBounds_toArray, List.set_cons_zero, List.set_cons_succ]
        refine wpAnyH_take (i := 27) (v := ?_) rfl (by kernel_rfl) (by kernel_rfl) (by kernel_rfl) (fun _ _ _ h => h) (Or.inl ⟨by kernel_rfl, ?_⟩) (by assumption) ?_
        rotate_left
        · intro w hSw
          (try dsimp only at hSw)
          go_simp
          all_goals (with_reducible rfl)
        try simp only [Act.put, List.getElem_toArray, List.getElem_cons_zero, List.getElem_cons_succ, List.setIfInBounds_toArray, List.set_cons_zero, List.set_cons_succ]
        refine wpAnyH_take (i := 28) (v := ?_) rfl (by kernel_rfl) (by kernel_rfl) (by kernel_rfl) (fun _ _ _ h => h) (Or.inl ⟨by kernel_rfl, ?_⟩) (by assumption) ?_
        rotate_left
        · intro w hSw
          (try dsimp only at hSw)
          go_simp
          all_goals (with_reducible rfl)
        try simp only [Act.put, List.getElem_toArray, List.getElem_cons_zero, List.getElem_cons_succ, List.setIfInBounds_toArray, List.set_cons_zero, List.set_cons_succ]
        refine wpAnyH_take (i := 29) (v := ?_) rfl (by kernel_rfl) (by kernel_rfl) (by kernel_rfl) (fun _ _ _ h => h) (Or.inl ⟨by kernel_rfl, ?_⟩) (by assumption) ?_
        rotate_left
        · intro w hSw
          (try dsimp only at hSw)
          go_simp
          all_goals (with_reducible rfl)
        try simp only [Act.put, List.getElem_toArray, List.getElem_cons_zero, List.getElem_cons_succ, List.setIfInBounds_toArray, List.set_cons_zero, List.set_cons_succ]
        refine wpAnyH_take (i := 30) (v := ?_) rfl (by kernel_rfl) (by kernel_rfl) (by kernel_rfl) (fun _ _ _ h => h) (Or.inl ⟨by kernel_rfl, ?_⟩) (by assumption) ?_
        rotate_left
        · intro w hSw
          (try dsimp only at hSw)
          go_simp
          all_goals (with_reducible rfl)
        try simp only [Act.put, List.getElem_toArray, List.getElem_cons_zero, List.getElem_cons_succ, List.setIfInBounds_toArray, List.set_cons_zero, List.set_cons_succ]
        refine wpAnyH_take (i := 31) (v := ?_) rfl (by kernel_rfl) (by kernel_rfl) (by kernel_rfl) (fun _ _ _ h => h) (Or.inl ⟨by kernel_rfl, ?_⟩) (by assumption) ?_
        rotate_left
        · intro w hSw
          (try dsimp only at hSw)
          go_simp
          all_goals (with_reducible rfl)
        try simp only [Act.put, List.getElem_toArray, List.getElem_cons_zero, List.getElem_cons_succ, List.setIfInBounds_toArray, List.set_cons_zero, List.set_cons_succ]
        refine wpAnyH_take (i := 32) (v := ?_) rfl (by kernel_rfl) (by kernel_rfl) (by kernel_rfl) (fun _ _ _ h => h) (Or.inl ⟨by kernel_rfl, ?_⟩) (by assumption) ?_
        rotate_left
        · intro w hSw
          (try dsimp only at hSw)
          go_simp
          all_goals (with_reducible rfl)
        try simp only [Act.put, List.getElem_toArray, List.getElem_cons_zero, List.getElem_cons_succ, List.setIfInBounds_toArray, List.set_cons_zero, List.set_cons_succ]
        refine wpAnyH_take (i := 33) (v := ?_) rfl (by kernel_rfl) (by kernel_rfl) (by kernel_rfl) (fun _ _ _ h => h) (Or.inl ⟨by kernel_rfl, ?_⟩) (by assumption) ?_
        rotate_left
        · intro w hSw
          (try dsimp only at hSw)
          go_simp
          all_goals (with_reducible rfl)
        try simp only [Act.put, List.getElem_toArray, List.getElem_cons_zero, List.getElem_cons_succ, List.setIfInBounds_toArray, List.set_cons_zero, List.set_cons_succ]
        refine wpAnyH_take (i := 34) (v := ?_) rfl (by kernel_rfl) (by kernel_rfl) (by kernel_rfl) (fun _ _ _ h => h) (Or.inl ⟨by kernel_rfl, ?_⟩) (by assumption) ?_
        rotate_left
        · intro w hSw
          (try dsimp only at hSw)
          go_simp
          all_goals (with_reducible rfl)
        try simp only [Act.put, List.getElem_toArray, List.getElem_cons_zero, List.getElem_cons_succ, List.setIfInBounds_toArray, List.set_cons_zero, List.set_cons_succ]
        refine wpAnyH_take (i := 35) (v := ?_) rfl (by kernel_rfl) (by kernel_rfl) (by kernel_rfl) (fun _ _ _ h => h) (Or.inl ⟨by kernel_rfl, ?_⟩) (by assumption) ?_
        rotate_left
        · intro w hSw
          (try dsimp only at hSw)
          go_simp
          all_goals (with_reducible rfl)
        try simp only [Act.put, List.getElem_toArray, List.getElem_cons_zero, List.getElem_cons_succ, List.setIfInBounds_toArray, List.set_cons_zero, List.set_cons_succ]
        refine wpAnyH_ready (rs := [36]) (by kernel_rfl) (by simp) ?_
        refine AllReadyH.cons rfl (fun K hK => ?_) AllReadyH.nil
        go_simp
        go_at_call 36
        refine (ptcompare_any a 1 b 1 a 1 b 1 s0 A0 n0 c0 t0 B0 m0 d0 s1 A1 n1 c1 t1 B1 m1 d1 s0 A0 n0 c0 t0 B0 m0 d0 s1 A1 n1 c1 t1 B1 m1 d1 v1 (A_1.out) (B_1.out) (A_1.out) (B_1.out) ⟨HLM.out.1, HLM.out.2, HLM.out.1, HLM.out.2⟩).mono ?_
        rw [pc_self]
        rintro e v2 ⟨rfl, hk⟩
        have HB_2 := Lib.hid hk
        go_wp2_with fail
        have HX_2 := Lib.hid (bt HX_1.out HB_2.out)
        have A_2 := Lib.hid ((A_1.out).new HB_2.out)
        have B_2 := Lib.hid ((B_1.out).new HB_2.out)
        refine hK.out _ _ (HS.out _ HX_2.out) (fun hHeld2 => ?_)
        clear hHeld
        have hHeld := hHeld2
        clear hHeld2 hK K hk HB_2 HX_1 A_1 B_1
        try simp only [Act.put, List.getElem_toArray, List.getElem_cons_zero, List.getElem_cons_succ, List.setIfInBounds_toArray, List.set_cons_zero, List.set_cons_succ]
        refine wpAnyH_take (i := 37) (v := ?_) rfl (by kernel_rfl) (by kernel_rfl) (by kernel_rfl) (fun _ _ _ h => h) (Or.inl ⟨by kernel_rfl, ?_⟩) (by assumption) ?_
        rotate_left
        · intro w hSw
          (try dsimp only at hSw)
          go_simp
          all_goals (with_reducible rfl)
        try simp only [Act.put, List.getElem_toArray, List.getElem_cons_zero, List.getElem_cons_succ, List.setIfInBounds_toArray, List.set_cons_zero, List.set_cons_succ]
        refine wpAnyH_take (i := 38) (v := ?_) rfl (by kernel_rfl) (by kernel_rfl) (by kernel_rfl) (fun _ _ _ h => h) (Or.inl ⟨by kernel_rfl, ?_⟩) (by assumption) ?_
        rotate_left
        · intro w hSw
          (try dsimp only at hSw)
          go_simp
          all_goals (with_reducible rfl)
        try simp only [Act.put, List.getElem_toArray, List.getElem_cons_zero, List.getElem_cons_succ, List.setIfInBounds_toArray, List.set_cons_zero, List.set_cons_succ]
        refine wpAnyH_done (by kernel_rfl) ?_ _
        clear hHeld
        have HL := Lib.hid HX_2.out
        go_wp2_with fail
        go_loopw [15] (fun tv wr => ∃ j : Nat, j ≤ 6 ∧ tv = .int .i64 (j : Int) ∧ Pts wr G ∧ Below w.heap.size w wr) (fun tv _ => 6 - (intOf tv).toNat)
        case atStart => exact ⟨0, by omega, rfl, pts_new HP3.out HL.out, bt HBW.out HL.out⟩
        case round =>
          obtain ⟨j, hj, rfl, hp, hbel⟩ := hrel
          have HP4 := Lib.hid hp
          have HB4 := Lib.hid hbel
          clear hp hbel
          by_cases hjl : j < 6
          · obtain ⟨c, d, f0, f1, _, _⟩ := HP4.out j hjl
            obtain ⟨a', b', g0, g1, _, _⟩ := HP4.out i hlt
            have h0j : (0 : Int) ≤ (j : Int) := by omega
            have hj6 : (j : Int) < 6 := by omega
            have HC4 := Lib.hid (And.intro g0 (And.intro g1 (And.intro f0 f1)))
            clear f0 f1 g0 g1
            go_wp2_with fail
            have HS4 : Hid (∀ w', Below wr.heap.size wr w' → w'.cell? ⟨G, i * 2, none⟩ = some (.int .i64 a') ∧ w'.cell? ⟨G, i * 2 + 1, none⟩ = some (.int .i64 b') ∧ w'.cell? ⟨G, j * 2, none⟩ = some (.int .i64 c) ∧ w'.cell? ⟨G, j * 2 + 1, none⟩ = some (.int .i64 d) ∧ Below wr.heap.size wr w') := Lib.hid (fun w' hb => ⟨keep3 hb HC4.out.1, keep3 hb HC4.out.2.1, keep3 hb HC4.out.2.2.1, keep3 hb HC4.out.2.2.2, hb⟩)
            have HX4 := Lib.hid (Below.refl wr.heap.size wr)
            obtain ⟨v0, hv0⟩ : ∃ z, World.drew wr = z := ⟨_, rfl⟩
            have HD0 := Lib.hid (show Below wr.heap.size wr v0 by rw [← hv0]; exact (Below.refl _ _).drew)
            have HX_0 := Lib.hid (bt HX4.out HD0.out)
            refine wp_region_held_drew (S := (fun w' : World => w'.cell? ⟨G, i * 2, none⟩ = some (.int .i64 a') ∧ w'.cell? ⟨G, i * 2 + 1, none⟩ = some (.int .i64 b') ∧ w'.cell? ⟨G, j * 2, none⟩ = some (.int .i64 c) ∧ w'.cell? ⟨G, j * 2 + 1, none⟩ = some (.int .i64 d) ∧ Below wr.heap.size wr w')) (by kernel_rfl) ?_ (fun hHeld => ?_)
            · rw [hv0]
              exact HS4.out _ HX_0.out
            rw [hv0] at hHeld ⊢
            clear hv0 HD0
            refine wpAnyH_take (i := 0) (v := ?_) rfl (by kernel_rfl) (by kernel_rfl) (by kernel_rfl) (fun _ _ _ h => h) (Or.inl ⟨by kernel_rfl, ?_⟩) (by assumption) ?_
            rotate_left
            · intro w hSw
              (try dsimp only at hSw)
              go_simp
              all_goals (with_reducible rfl)
            try simp only [Act.put, List.getElem_toArray, List.getElem_cons_zero, List.setIfInBounds_toArray, List.set_cons_zero, List.set_cons_succ]
            refine wpAnyH_take (i := 1) (v := ?_) rfl (by kernel_rfl) (by kernel_rfl) (by kernel_rfl) (fun _ _ _ h => h) (Or.inl ⟨by kernel_rfl, ?_⟩) (by assumption) ?_
            rotate_left
            · intro w hSw
              (try dsimp only at hSw)
              go_simp
              all_goals (with_reducible rfl)
            try simp only [Act.put, List.getElem_toArray, List.getElem_cons_zero, List.getElem_cons_succ, List.setIfInBounds_toArray, List.set_cons_zero, List.set_cons_succ]
            refine wpAnyH_take (i := 2) (v := ?_) rfl (by kernel_rfl) (by kernel_rfl) (by kernel_rfl) (fun _ _ _ h => h) (Or.inl ⟨by kernel_rfl, ?_⟩) (by assumption) ?_
            rotate_left
            · intro w hSw
              (try dsimp only at hSw)
              go_simp
              all_goals (with_reducible rfl)
            try simp only [Act.put, List.getElem_toArray, List.getElem_cons_zero, List.getElem_cons_succ, List.setIfInBounds_toArray, List.set_cons_zero, List.set_cons_succ]
            refine wpAnyH_take (i := 3) (v := ?_) rfl (by kernel_rfl) (by kernel_rfl) (by kernel_rfl) (fun _ _ _ h => h) (Or.inl ⟨by kernel_rfl, ?_⟩) (by assumption) ?_
            rotate_left
            · intro w hSw
              (try dsimp only at hSw)
              go_simp
              all_goals (with_reducible rfl)
            try simp only [Act.put, List.getElem_toArray, List.getElem_cons_zero, List.getElem_cons_succ, List.setIfInBounds_toArray, List.set_cons_zero, List.set_cons_succ]
            refine wpAnyH_take (i := 4) (v := ?_) rfl (by kernel_rfl) (by kernel_rfl) (by kernel_rfl) (fun _ _ _ h => h) (Or.inl ⟨by kernel_rfl, ?_⟩) (by assumption) ?_
            rotate_left
            · intro w hSw
              (try dsimp only at hSw)
              go_simp
              all_goals (with_reducible rfl)
            try simp only [Act.put, List.getElem_toArray, List.getElem_cons_zero, List.getElem_cons_succ, List.setIfInBounds_toArray, List.set_cons_zero, List.set_cons_succ]
            refine wpAnyH_take (i := 5) (v := ?_) rfl (by kernel_rfl) (by kernel_rfl) (by kernel_rfl) (fun _ _ _ h => h) (Or.inl ⟨by kernel_rfl, ?_⟩) (by assumption) ?_
            rotate_left
            · intro w hSw
              (try dsimp only at hSw)
              go_simp
              all_goals (with_reducible rfl)
            try simp only [Act.put, List.getElem_toArray, List.getElem_cons_zero, List.getElem_cons_succ, List.setIfInBounds_toArray, List.set_cons_zero, List.set_cons_succ]
            refine wpAnyH_take (i := 6) (v := ?_) rfl (by kernel_rfl) (by kernel_rfl) (by kernel_rfl) (fun _ _ _ h => h) (Or.inl ⟨by kernel_rfl, ?_⟩) (by assumption) ?_
            rotate_left
            · intro w hSw
              (try dsimp only at hSw)
              go_simp
              all_goals (with_reducible rfl)
            try simp only [Act.put, List.getElem_toArray, List.getElem_cons_zero, List.getElem_cons_succ, List.setIfInBounds_toArray, List.set_cons_zero, List.set_cons_succ]
            refine wpAnyH_take (i := 7) (v := ?_) rfl (by kernel_rfl) (by kernel_rfl) (by kernel_rfl) (fun _ _ _ h => h) (Or.inl ⟨by kernel_rfl, ?_⟩) (by assumption) ?_
            rotate_left
            · intro w hSw
              (try dsimp only at hSw)
              go_simp
              all_goals (with_reducible rfl)
            try simp only [Act.put, List.getElem_toArray, List.getElem_cons_zero, List.getElem_cons_succ, List.setIfInBounds_toArray, List.set_cons_zero, List.set_cons_succ]
            refine wpAnyH_take (i := 8) (v := ?_) rfl (by kernel_rfl) (by kernel_rfl) (by kernel_rfl) (fun _ _ _ h => h) (Or.inl ⟨by kernel_rfl, ?_⟩) (by assumption) ?_
            rotate_left
            · intro w hSw
              (try dsimp only at hSw)
              go_simp
              all_goals (with_reducible rfl)
            try simp only [Act.put, List.getElem_toArray, List.getElem_cons_zero, List.getElem_cons_succ, List.setIfInBounds_toArray, List.set_cons_zero, List.set_cons_succ]
            refine wpAnyH_ready (rs := [9]) (by kernel_rfl) (by simp) ?_
            refine AllReadyH.cons rfl (fun K hK => ?_) AllReadyH.nil
            go_simp
            have HB_1 := Lib.hid ((Below.refl v0.heap.size v0).alloc (Nat.le_refl _) (.cells #[.int .i64 0, .int .i64 0, .int .i64 0, .int .i64 0] 67))
            have HP_q_1 := Lib.hid (P4.lit v0 67 (.int .i64 0) (.int .i64 0) (.int .i64 0) (.int .i64 0))
            obtain ⟨v1, hV⟩ : ∃ z, World.alloc v0 (.cells #[.int .i64 0, .int .i64 0, .int .i64 0, .int .i64 0] 67) = z := ⟨_, rfl⟩
            obtain ⟨gq, hg⟩ : ∃ z, v0.heap.size = z := ⟨_, rfl⟩
            rw [hV] at HB_1 HP_q_1  ⊢
            rw [hg] at HP_q_1  ⊢
            have HG_q := Lib.hid (show wr.heap.size ≤ gq by rw [← hg]; exact HX_0.out.size)
            have HX_1 := Lib.hid (bt HX_0.out HB_1.out)
            refine hK.out _ _ (HS4.out _ HX_1.out) (fun hHeld2 => ?_)
            clear hHeld
            have hHeld := hHeld2
            clear hHeld2 hK K hV hg HB_1 HX_0
            try simp only [Act.put, List.getElem_toArray, List.getElem_cons_zero, List.getElem_cons_succ, List.setIfInBounds_toArray, List.set_cons_zero, List.set_cons_succ]
            refine wpAnyH_ready (rs := [10]) (by kernel_rfl) (by simp) ?_
            refine AllReadyH.cons rfl (fun K hK => ?_) AllReadyH.nil
            obtain ⟨z0, z1, z2, z3⟩ := HP_q_1.out.cells
            have y0 := HP_q_1.out.frozen 0
            have y1 := HP_q_1.out.frozen 1
            have y2 := HP_q_1.out.frozen 2
            have y3 := HP_q_1.out.frozen 3
            have z9 := HP_q_1.out.lt
            go_simp
            obtain ⟨v2, hV⟩ : ∃ z, World.setCell (World.setCell (World.setCell (World.setCell v1 ⟨gq, 0, none⟩ (.int .i64 a')) ⟨gq, 1, none⟩ (.int .i64 b')) ⟨gq, 2, none⟩ (.int .i64 c)) ⟨gq, 3, none⟩ (.int .i64 d) = z := ⟨_, rfl⟩
            rw [hV]
            have HX_2 := Lib.hid (show Below wr.heap.size wr v2 by rw [← hV]; exact below_box4 HX_1.out (HG_q.out) _ _ _ _)
            have HP_q_2 := Lib.hid (show P4 67 v2 gq (.int .i64 a') (.int .i64 b') (.int .i64 c) (.int .i64 d) by rw [← hV]; exact HP_q_1.out.all (.int .i64 a') (.int .i64 b') (.int .i64 c) (.int .i64 d))
            refine hK.out _ _ (HS4.out _ HX_2.out) (fun hHeld2 => ?_)
            clear hHeld
            have hHeld := hHeld2
            clear hHeld2 hK K hV z9 z0 z1 z2 z3 y0 y1 y2 y3 HX_1 HP_q_1
            try simp only [Act.put, List.getElem_toArray, List.getElem_cons_zero, List.getElem_cons_succ, List.setIfInBounds_toArray, List.set_cons_zero, List.set_cons_succ]
            refine wpAnyH_done (by kernel_rfl) ?_ _
            clear hHeld
            have HYB := Lib.hid HX_2.out
            obtain ⟨yb, hyb⟩ : ∃ z, z = v2 := ⟨_, rfl⟩
            subst hyb
            have HS5 : Hid (∀ w', Below yb.heap.size yb w' → (fun w' : World => w'.cell? ⟨gq, 0, none⟩ = some (.int .i64 a') ∧ w'.cell? ⟨gq, 1, none⟩ = some (.int .i64 b') ∧ w'.cell? ⟨gq, 2, none⟩ = some (.int .i64 c) ∧ w'.cell? ⟨gq, 3, none⟩ = some (.int .i64 d) ∧ Below yb.heap.size yb w') w') := Lib.hid (fun w' hb => ⟨(HP_q_2.out.new hb).cells.1, (HP_q_2.out.new hb).cells.2.1, (HP_q_2.out.new hb).cells.2.2.1, (HP_q_2.out.new hb).cells.2.2.2, hb⟩)
            have HXY := Lib.hid (Below.refl yb.heap.size yb)
            obtain ⟨vb, hvb⟩ : ∃ z, vbC a' b' c d = z := ⟨_, rfl⟩
            have HVB := Lib.hid hvb
            clear hvb
            go_wp2_with fail
            obtain ⟨v0, hv0⟩ : ∃ z, World.drew yb = z := ⟨_, rfl⟩
            have HD0 := Lib.hid (show Below yb.heap.size yb v0 by rw [← hv0]; exact (Below.refl _ _).drew)
            have HX_0 := Lib.hid (bt HXY.out HD0.out)
            refine wp_region_held_drew (S := (fun w' : World => w'.cell? ⟨gq, 0, none⟩ = some (.int .i64 a') ∧ w'.cell? ⟨gq, 1, none⟩ = some (.int .i64 b') ∧ w'.cell? ⟨gq, 2, none⟩ = some (.int .i64 c) ∧ w'.cell? ⟨gq, 3, none⟩ = some (.int .i64 d) ∧ Below yb.heap.size yb w')) (by kernel_rfl) ?_ (fun hHeld => ?_)
            · rw [hv0]
              exact HS5.out _ HX_0.out
            rw [hv0] at hHeld ⊢
            clear hv0 HD0
            refine wpAnyH_take (i := 0) (v := ?_) rfl (by kernel_rfl) (by kernel_rfl) (by kernel_rfl) (fun _ _ _ h => h) (Or.inl ⟨by kernel_rfl, ?_⟩) (by assumption) ?_
            rotate_left
            · intro w hSw
              (try dsimp only at hSw)
              go_simp
              all_goals (with_reducible rfl)
            try simp only [Act.put, List.getElem_toArray, List.getElem_cons_zero, List.setIfInBounds_toArray, List.set_cons_zero, List.set_cons_succ]
            refine wpAnyH_take (i := 2) (v := ?_) rfl (by kernel_rfl) (by kernel_rfl) (by kernel_rfl) (fun _ _ _ h => h) (Or.inl ⟨by kernel_rfl, ?_⟩) (by assumption) ?_
            rotate_left
            · intro w hSw
              (try dsimp only at hSw)
              go_simp
              all_goals (with_reducible rfl)
            try simp only [Act.put, List.getElem_toArray, List.getElem_cons_zero, List.getElem_cons_succ, List.setIfInBounds_toArray, List.set_cons_zero, List.set_cons_succ]
            refine wpAnyH_ready (rs := [1]) (by kernel_rfl) (by simp) ?_
            refine AllReadyH.cons rfl (fun K hK => ?_) AllReadyH.nil
            go_simp
            go_at_call 37
            refine (validbox_any a' b' c d v0).mono ?_
            rw [HVB.out]
            rintro e v1 ⟨rfl, hk⟩
            have HB_1 := Lib.hid hk
            go_wp2_with fail
            have HX_1 := Lib.hid (bt HX_0.out HB_1.out)
            refine hK.out _ _ (HS5.out _ HX_1.out) (fun hHeld2 => ?_)
            clear hHeld
            have hHeld := hHeld2
            clear hHeld2 hK K hk HB_1 HX_0
            try simp only [Act.put, List.getElem_toArray, List.getElem_cons_zero, List.getElem_cons_succ, List.setIfInBounds_toArray, List.set_cons_zero, List.set_cons_succ]
            refine wpAnyH_ready (rs := [3]) (by kernel_rfl) (by simp) ?_
            refine AllReadyH.cons rfl (fun K hK => ?_) AllReadyH.nil
            go_simp
            go_at_call 38
            refine (goodbox_any a' b' c d v1).mono ?_
            rw [HVB.out]
            rintro e v2 ⟨rfl, hk⟩
            have HB_2 := Lib.hid hk
            go_wp2_with fail
            have HX_2 := Lib.hid (bt HX_1.out HB_2.out)
            refine hK.out _ _ (HS5.out _ HX_2.out) (fun hHeld2 => ?_)
            clear hHeld
            have hHeld := hHeld2
            clear hHeld2 hK K hk HB_2 HX_1
            try simp only [Act.put, List.getElem_toArray, List.getElem_cons_zero, List.getElem_cons_succ, List.setIfInBounds_toArray, List.set_cons_zero, List.set_cons_succ]
            refine wpAnyH_take (i := 4) (v := ?_) rfl (by kernel_rfl) (by kernel_rfl) (by kernel_rfl) (fun _ _ _ h => h) (Or.inl ⟨by kernel_rfl, ?_⟩) (by assumption) ?_
            rotate_left
            · intro w hSw
              (try dsimp only at hSw)
              go_simp
              all_goals (with_reducible rfl)
            try simp only [Act.put, List.getElem_toArray, List.getElem_cons_zero, List.getElem_cons_succ, List.setIfInBounds_toArray, List.set_cons_zero, List.set_cons_succ]
            refine wpAnyH_done (by kernel_rfl) ?_ _
            clear hHeld
            have HL5 := Lib.hid (bt HYB.out HX_2.out)
            go_wp2
            go_roundw
            case rel => exact ⟨j + 1, by omega, by go_num, pts_new HP4.out HL5.out, bt HB4.out HL5.out⟩
            case measure => simp [intOf]; omega
          · obtain rfl : j = 6 := by omega
            go_wp2
            go_roundw
            case rel => exact ⟨i + 1, by omega, by go_num, HP4.out, HB4.out⟩
            case measure => simp [intOf]; omega
    · obtain rfl : i = 6 := by omega
      go_wp2_with fail
      refine (plives_any wr).mono ?_
      rintro e w5 ⟨rfl, hb5⟩
      have HB5 := Lib.hid (bt HB.out hb5)
      clear hb5
      go_wp2
      go_ret
      exact ⟨rfl, HB5.out⟩
end Go.Proofs.Ytlhccfmbfdaboaa
