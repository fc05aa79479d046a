/- Contracts of the reference's points: Around, Grid, Scaled; of the program's: notGreater over fractions, In, Meets. Conditions: as each statement has them. -/
import Derived.Test.YtfmccalkfagafaaZPD
namespace Go.Proofs.Ytfmccalkfagafaa
open Go.RowKit
attribute [local go_sem ↓] Go.wp_at_zero Go.wp_at_succ
/-- n modulo most, never negative. -/
def aroundZ (v n : Int) : Int := (if v < 0 then -(v + 1) else v) % n
theorem aroundZ_in (v : Int) {n : Int} (h : 1 ≤ n) : 0 ≤ aroundZ v n ∧ aroundZ v n < n := ⟨Int.emod_nonneg _ (by omega), Int.emod_lt_of_pos _ (by omega)⟩
theorem i64_in {x : Int} (h : (Lit.int .i64 x).wf = true) : -9223372036854775808 ≤ x ∧ x ≤ 9223372036854775807 := by simpa [Lit.wf, IntKind.min, IntKind.max, IntKind.signed, IntKind.bits] using h
theorem aroundz_any (v n : Int) (w : World) (h1 : 1 ≤ n) (hn : n ≤ 1099511627776) (hv : (Lit.int .i64 v).wf = true) :
    Calls Try.prog 16 #[.int .i64 v, .int .i64 n] w fun e w' => e = .returned (.int .i64 (aroundZ v n)) ∧ w = w' := by
  obtain ⟨hb1, hb2⟩ := i64_in hv
  unfold aroundZ
  clear hv
  by_cases h : v < 0
  · rw [if_pos h, ← Int.tmod_eq_emod_of_nonneg (show 0 ≤ -(v + 1) by omega), Int.neg_tmod]
    go_enter Try.func16, Try.ntmps16
    go_wp2
    go_ret
    exact ⟨rfl, rfl⟩
  · rw [if_neg h]
    have h0 : 0 ≤ v := by omega
    go_enter Try.func16, Try.ntmps16
    go_wp2
    go_ret
    exact ⟨rfl, rfl⟩
theorem G_size : (Try.prog.info? 44).map (·.size) = some 2 := by kernel_rfl
/-- A coordinate of Grid. -/
def Co (x : Int) : Prop := 0 ≤ x ∧ x ≤ 32
set_option maxRecDepth 100000 in
set_option maxHeartbeats 6400000 in
theorem grid_any (n : Int) (w : World) (hn : (Lit.int .i64 n).wf = true) :
    Calls Try.prog 28 #[.int .i64 n] w fun e w' => ∃ x y, e = .returned (.agg #[.int .i64 x, .int .i64 y]) ∧ Co x ∧ Co y ∧ Below w.heap.size w w' := by
  have HN := Lib.hid hn
  clear hn
  obtain ⟨W, hW⟩ : ∃ W, w.alloc (.cells #[.int .i64 0, .int .i64 0] 44) = W := ⟨_, rfl⟩
  have HK := Lib.hid (show Below w.heap.size w W by rw [← hW]; exact (Below.refl _ w).alloc (Nat.le_refl _) _)
  have HZ := Lib.hid (show P2 44 W w.heap.size (.int .i64 0) (.int .i64 0) by rw [← hW]; exact P2.lit _ _ _ _)
  obtain ⟨z0, z1⟩ := HZ.out.cells
  have f0 := HZ.out.frozen 0
  have f1 := HZ.out.frozen 1
  go_enter Try.func28, Try.ntmps28
  go_wp2_with fail
  refine (aroundz_any n 1048576 W (by decide) (by decide) HN.out).mono ?_
  rintro e w1 ⟨rfl, rfl⟩
  obtain ⟨k, hk⟩ : ∃ k, aroundZ n 1048576 = k := ⟨_, rfl⟩
  obtain ⟨hk0, hk1⟩ := aroundZ_in n (n := 1048576) (by decide)
  rw [hk] at hk0 hk1 ⊢
  clear hk
  by_cases h3 : k % 3 = 0
  · have e1 : IntKind.i64.wrap (k / 3) = k / 3 := IntWalk.i64_in _ (by omega)
    have e2 : IntKind.i64.wrap (k / 15) = k / 15 := IntWalk.i64_in _ (by omega)
    have e3 : IntKind.i64.wrap (k / 3 % 5) = k / 3 % 5 := IntWalk.i64_in _ (by omega)
    have e4 : IntKind.i64.wrap (k / 15 % 5) = k / 15 % 5 := IntWalk.i64_in _ (by omega)
    have g1 : 0 ≤ k / 3 := by omega
    have g2 : 0 ≤ k / 15 := by omega
    have e5 : IntKind.i64.wrap (8 * (k / 3 % 5)) = 8 * (k / 3 % 5) := IntWalk.i64_in _ (by omega)
    have e6 : IntKind.i64.wrap (8 * (k / 15 % 5)) = 8 * (k / 15 % 5) := IntWalk.i64_in _ (by omega)
    have e7 : (k % 3 == 0) = true := by simp [h3]
    have HR := Lib.hid (show Co (8 * (k / 3 % 5)) ∧ Co (8 * (k / 15 % 5)) from ⟨⟨by omega, by omega⟩, by omega, by omega⟩)
    clear h3
    go_wp2
    exact bodyPost_ret (results_cell_row rfl _ _ _ _ _ _ _ rfl (HZ.out.all (.int .i64 (8 * (k / 3 % 5))) (.int .i64 (8 * (k / 15 % 5)))) Try.underlying44 rfl G_size) rfl ⟨_, _, rfl, HR.out.1, HR.out.2, below_box HK.out (by omega) _ _⟩
  · have e1 : IntKind.i64.wrap (k / 3) = k / 3 := IntWalk.i64_in _ (by omega)
    have e2 : IntKind.i64.wrap (k / 99) = k / 99 := IntWalk.i64_in _ (by omega)
    have e3 : IntKind.i64.wrap (k / 3 % 33) = k / 3 % 33 := IntWalk.i64_in _ (by omega)
    have e4 : IntKind.i64.wrap (k / 99 % 33) = k / 99 % 33 := IntWalk.i64_in _ (by omega)
    have g1 : 0 ≤ k / 3 := by omega
    have g2 : 0 ≤ k / 99 := by omega
    have e7 : (k % 3 == 0) = false := by simp [h3]
    have HR := Lib.hid (show Co (k / 3 % 33) ∧ Co (k / 99 % 33) from ⟨⟨by omega, by omega⟩, by omega, by omega⟩)
    clear h3
    go_wp2
    exact bodyPost_ret (results_cell_row rfl _ _ _ _ _ _ _ rfl (HZ.out.all (.int .i64 (k / 3 % 33)) (.int .i64 (k / 99 % 33))) Try.underlying44 rfl G_size) rfl ⟨_, _, rfl, HR.out.1, HR.out.2, below_box HK.out (by omega) _ _⟩
/-- Neither coordinate is greater. -/
def ngV (p q u v p' q' u' v' : Int) : Bool := decide (p * q' ≤ p' * q ∧ u * v' ≤ u' * v)
theorem cmpI_gt {a b : Int} (h : a ≤ b) : ¬ 0 < cmpI a b := by unfold cmpI; split <;> (try split) <;> omega
theorem cmpI_ng {a b : Int} (h : ¬ 0 < cmpI a b) : a ≤ b := by
  rcases cmpI_cases a b with ⟨h1, _⟩ | ⟨h1, _⟩ | ⟨_, h2⟩
  · omega
  · omega
  · rw [h2] at h; exact absurd (by decide) h
set_option maxRecDepth 100000 in
set_option maxHeartbeats 6400000 in
theorem notgrf_any (p q u v p' q' u' v' : Int) (s0 : Bool) (A0 : Option Addr) (n0 c0 : Nat) (t0 : Bool) (B0 : Option Addr) (m0 d0 : Nat) (s1 : Bool) (A1 : Option Addr) (n1 c1 : Nat) (t1 : Bool) (B1 : Option Addr) (m1 d1 : Nat) (s2 : Bool) (A2 : Option Addr) (n2 c2 : Nat) (t2 : Bool) (B2 : Option Addr) (m2 d2 : Nat) (s3 : Bool) (A3 : Option Addr) (n3 c3 : Nat) (t3 : Bool) (B3 : Option Addr) (m3 d3 : Nat) (w : World) (h0 : PF w s0 A0 n0 c0 t0 B0 m0 d0 p q) (h1 : PF w s1 A1 n1 c1 t1 B1 m1 d1 u v) (h2 : PF w s2 A2 n2 c2 t2 B2 m2 d2 p' q') (h3 : PF w s3 A3 n3 c3 t3 B3 m3 d3 u' v') (hl : (0 < q ∧ p.natAbs < lim ∧ q.natAbs < lim) ∧ (0 < v ∧ u.natAbs < lim ∧ v.natAbs < lim) ∧ (0 < q' ∧ p'.natAbs < lim ∧ q'.natAbs < lim) ∧ (0 < v' ∧ u'.natAbs < lim ∧ v'.natAbs < lim)) :
    Calls Try.prog 66 #[.agg #[.bool s0, .slice A0 n0 c0, .bool t0, .slice B0 m0 d0, .bool s1, .slice A1 n1 c1, .bool t1, .slice B1 m1 d1], .agg #[.bool s2, .slice A2 n2 c2, .bool t2, .slice B2 m2 d2, .bool s3, .slice A3 n3 c3, .bool t3, .slice B3 m3 d3], .func (.func 27) #[] #[]] w fun e w' => e = .returned (.bool (ngV p q u v p' q' u' v')) ∧ Below w.heap.size w w' := by
  have HL := Lib.hid hl
  clear hl
  obtain ⟨C, hC⟩ : ∃ c, ngV p q u v p' q' u' v' = c := ⟨_, rfl⟩
  have HC := Lib.hid hC
  rw [hC]
  clear hC
  obtain ⟨W, hW⟩ : ∃ W, (w.alloc (.cells #[.bool s0, .slice A0 n0 c0, .bool t0, .slice B0 m0 d0, .bool s1, .slice A1 n1 c1, .bool t1, .slice B1 m1 d1] 78)).alloc (.cells #[.bool s2, .slice A2 n2 c2, .bool t2, .slice B2 m2 d2, .bool s3, .slice A3 n3 c3, .bool t3, .slice B3 m3 d3] 78) = W := ⟨_, rfl⟩
  have HK := Lib.hid (show Below w.heap.size w W by rw [← hW]; exact ((Below.refl _ w).alloc (Nat.le_refl _) _).alloc (by simp) _)
  have HA := Lib.hid (show P8 78 W w.heap.size (.bool s0) (.slice A0 n0 c0) (.bool t0) (.slice B0 m0 d0) (.bool s1) (.slice A1 n1 c1) (.bool t1) (.slice B1 m1 d1) by rw [← hW]; exact (P8.lit w _ _ _ _ _ _ _ _ _).new ((Below.refl _ _).alloc (Nat.le_refl _) _))
  have HB := Lib.hid (show P8 78 W (w.heap.size + 1) (.bool s2) (.slice A2 n2 c2) (.bool t2) (.slice B2 m2 d2) (.bool s3) (.slice A3 n3 c3) (.bool t3) (.slice B3 m3 d3) by
    rw [← hW]
    have h0 := P8.lit (w.alloc (.cells #[.bool s0, .slice A0 n0 c0, .bool t0, .slice B0 m0 d0, .bool s1, .slice A1 n1 c1, .bool t1, .slice B1 m1 d1] 78)) 78 (.bool s2) (.slice A2 n2 c2) (.bool t2) (.slice B2 m2 d2) (.bool s3) (.slice A3 n3 c3) (.bool t3) (.slice B3 m3 d3)
    rw [World.size_alloc] at h0
    exact h0)
  have H0 := Lib.hid (h0.new HK.out)
  have H1 := Lib.hid (h1.new HK.out)
  have H2 := Lib.hid (h2.new HK.out)
  have H3 := Lib.hid (h3.new HK.out)
  clear h0 h1 h2 h3
  obtain ⟨h, hh⟩ : ∃ h, w.heap.size = h := ⟨_, rfl⟩
  rw [hh] at HA HB
  go_enter Try.func66, Try.ntmps66
  go_wp2_with fail
  clear hW hh
  go_loopw [8] (fun tv wr => ∃ i : Nat, i ≤ 2 ∧ tv = .int .i64 (i : Int) ∧ P8 78 wr h (.bool s0) (.slice A0 n0 c0) (.bool t0) (.slice B0 m0 d0) (.bool s1) (.slice A1 n1 c1) (.bool t1) (.slice B1 m1 d1) ∧ P8 78 wr (h + 1) (.bool s2) (.slice A2 n2 c2) (.bool t2) (.slice B2 m2 d2) (.bool s3) (.slice A3 n3 c3) (.bool t3) (.slice B3 m3 d3) ∧ PF wr s0 A0 n0 c0 t0 B0 m0 d0 p q ∧ PF wr s1 A1 n1 c1 t1 B1 m1 d1 u v ∧ PF wr s2 A2 n2 c2 t2 B2 m2 d2 p' q' ∧ PF wr s3 A3 n3 c3 t3 B3 m3 d3 u' v' ∧ Hid ((0 < i → p * q' ≤ p' * q) ∧ (1 < i → u * v' ≤ u' * v)) ∧ Below w.heap.size w wr) (fun tv _ => 2 - (intOf tv).toNat)
  case atStart => exact ⟨0, by omega, rfl, HA.out, HB.out, H0.out, H1.out, H2.out, H3.out, Lib.hid ⟨fun h => by omega, fun h => by omega⟩, HK.out⟩
  case round =>
    clear HA HB HK H0 H1 H2 H3
    obtain ⟨i, hi, rfl, ha, hb, h0, h1, h2, h3, hle, hbel⟩ := hrel
    have HA := Lib.hid ha
    have HB := Lib.hid hb
    have H0 := Lib.hid h0
    have H1 := Lib.hid h1
    have H2 := Lib.hid h2
    have H3 := Lib.hid h3
    have HBB := Lib.hid hbel
    clear ha hb h0 h1 h2 h3 hbel
    have hi3 : i = 0 ∨ i = 1 ∨ i = 2 := by omega
    rcases hi3 with rfl | rfl | rfl
    · have HS : Hid (∀ w', Below wr.heap.size wr w' → (fun w' : World => w'.cell? ⟨h, 0, none⟩ = some (.bool s0) ∧ w'.cell? ⟨h, 1, none⟩ = some (.slice A0 n0 c0) ∧ w'.cell? ⟨h, 2, none⟩ = some (.bool t0) ∧ w'.cell? ⟨h, 3, none⟩ = some (.slice B0 m0 d0) ∧ w'.cell? ⟨(h + 1), 0, none⟩ = some (.bool s2) ∧ w'.cell? ⟨(h + 1), 1, none⟩ = some (.slice A2 n2 c2) ∧ w'.cell? ⟨(h + 1), 2, none⟩ = some (.bool t2) ∧ w'.cell? ⟨(h + 1), 3, none⟩ = some (.slice B2 m2 d2) ∧ Below wr.heap.size wr w') w') := Lib.hid (fun w' hb => ⟨(HA.out.new hb).cells.1.1, (HA.out.new hb).cells.1.2.1, (HA.out.new hb).cells.1.2.2.1, (HA.out.new hb).cells.1.2.2.2, (HB.out.new hb).cells.1.1, (HB.out.new hb).cells.1.2.1, (HB.out.new hb).cells.1.2.2.1, (HB.out.new hb).cells.1.2.2.2, hb⟩)
      have HXX := Lib.hid (Below.refl wr.heap.size wr)
      obtain ⟨k, hk0⟩ : ∃ k, cmpI (p * q') (p' * q) = k := ⟨_, rfl⟩
      have HKV := Lib.hid hk0
      clear hk0
      go_wp2_with fail
      obtain ⟨v0, hv0⟩ : ∃ z, World.drew wr = z := ⟨_, rfl⟩
      have HD0 := Lib.hid (show Below wr.heap.size wr v0 by rw [← hv0]; exact (Below.refl _ _).drew)
      have HX_0 := Lib.hid (bt HXX.out HD0.out)
      have X_0 := Lib.hid ((H0.out).new HD0.out)
      have Y_0 := Lib.hid ((H2.out).new HD0.out)
      refine wp_region_held_drew (S := (fun w' : World => w'.cell? ⟨h, 0, none⟩ = some (.bool s0) ∧ w'.cell? ⟨h, 1, none⟩ = some (.slice A0 n0 c0) ∧ w'.cell? ⟨h, 2, none⟩ = some (.bool t0) ∧ w'.cell? ⟨h, 3, none⟩ = some (.slice B0 m0 d0) ∧ w'.cell? ⟨(h + 1), 0, none⟩ = some (.bool s2) ∧ w'.cell? ⟨(h + 1), 1, none⟩ = some (.slice A2 n2 c2) ∧ w'.cell? ⟨(h + 1), 2, none⟩ = some (.bool t2) ∧ w'.cell? ⟨(h + 1), 3, none⟩ = some (.slice B2 m2 d2) ∧ Below wr.heap.size wr w')) (by kernel_rfl) ?_ (fun hHeld => ?_)
      · rw [hv0]
        exact HS.out _ HX_0.out
      rw [hv0] at hHeld ⊢
      clear hv0 HD0
      refine wpAnyH_take (i := 0) (v := ?_) rfl (by kernel_rfl) (by kernel_rfl) (by kernel_rfl) (fun _ _ _ h => h) (Or.inl ⟨by kernel_rfl, ?_⟩) (by assumption) ?_
      rotate_left
      · intro w hSw
        (try dsimp only at hSw)
        go_simp
        all_goals (with_reducible rfl)
      try simp only [Act.put, List.getElem_toArray, List.getElem_cons_zero, List.setIfInBounds_toArray, List.set_cons_zero, List.set_cons_succ]
      refine wpAnyH_take (i := 1) (v := ?_) rfl (by kernel_rfl) (by kernel_rfl) (by kernel_rfl) (fun _ _ _ h => h) (Or.inl ⟨by kernel_rfl, ?_⟩) (by assumption) ?_
      rotate_left
      · intro w hSw
        (try dsimp only at hSw)
        go_simp
        all_goals (with_reducible rfl)
      try simp only [Act.put, List.getElem_toArray, List.getElem_cons_zero, List.getElem_cons_succ, List.setIfInBounds_toArray, List.set_cons_zero, List.set_cons_succ]
      refine wpAnyH_take (i := 2) (v := ?_) rfl (by kernel_rfl) (by kernel_rfl) (by kernel_rfl) (fun _ _ _ h => h) (Or.inl ⟨by kernel_rfl, ?_⟩) (by assumption) ?_
      rotate_left
      · intro w hSw
        (try dsimp only at hSw)
        go_simp
        all_goals (with_reducible rfl)
      try simp only [Act.put, List.getElem_toArray, List.getElem_cons_zero, List.getElem_cons_succ, List.setIfInBounds_toArray, List.set_cons_zero, List.set_cons_succ]
      refine wpAnyH_take (i := 3) (v := ?_) rfl (by kernel_rfl) (by kernel_rfl) (by kernel_rfl) (fun _ _ _ h => h) (Or.inl ⟨by kernel_rfl, ?_⟩) (by assumption) ?_
      rotate_left
      · intro w hSw
        (try dsimp only at hSw)
        go_simp
        all_goals (with_reducible rfl)
      try simp only [Act.put, List.getElem_toArray, List.getElem_cons_zero, List.getElem_cons_succ, List.setIfInBounds_toArray, List.set_cons_zero, List.set_cons_succ]
      refine wpAnyH_take (i := 4) (v := ?_) rfl (by kernel_rfl) (by kernel_rfl) (by kernel_rfl) (fun _ _ _ h => h) (Or.inl ⟨by kernel_rfl, ?_⟩) (by assumption) ?_
      rotate_left
      · intro w hSw
        (try dsimp only at hSw)
        go_simp
        all_goals (with_reducible rfl)
      try simp only [Act.put, List.getElem_toArray, List.getElem_cons_zero, List.getElem_cons_succ, List.setIfInBounds_toArray, List.set_cons_zero, List.set_cons_succ]
      refine wpAnyH_take (i := 5) (v := ?_) rfl (by kernel_rfl) (by kernel_rfl) (by kernel_rfl) (fun _ _ _ h => h) (Or.inl ⟨by kernel_rfl, ?_⟩) (by assumption) ?_
      rotate_left
      · intro w hSw
        (try dsimp only at hSw)
        go_simp
        all_goals (with_reducible rfl)
      try simp only [Act.put, List.getElem_toArray, List.getElem_cons_zero, List.getElem_cons_succ, List.setIfInBounds_toArray, List.set_cons_zero, List.set_cons_succ]
      refine wpAnyH_take (i := 6) (v := ?_) rfl (by kernel_rfl) (by kernel_rfl) (by kernel_rfl) (fun _ _ _ h => h) (Or.inl ⟨by kernel_rfl, ?_⟩) (by assumption) ?_
      rotate_left
      · intro w hSw
        (try dsimp only at hSw)
        go_simp
        all_goals (with_reducible rfl)
      try simp only [Act.put, List.getElem_toArray, List.getElem_cons_zero, List.getElem_cons_succ, List.setIfInBounds_toArray, List.set_cons_zero, List.set_cons_succ]
      refine wpAnyH_ready (rs := [7]) (by kernel_rfl) (by simp) ?_
      refine AllReadyH.cons rfl (fun K hK => ?_) AllReadyH.nil
      go_simp
      go_at_call 27
      refine (fcompare_any p q p' q' s0 t0 s2 t2 A0 B0 A2 B2 n0 c0 m0 d0 n2 c2 m2 d2 v0 (X_0.out) (Y_0.out) HL.out.1.1 HL.out.2.2.1.1 HL.out.1.2.1 HL.out.1.2.2 HL.out.2.2.1.2.1 HL.out.2.2.1.2.2).mono ?_
      rw [HKV.out]
      rintro e v1 ⟨rfl, hk⟩
      have HB_1 := Lib.hid hk
      go_wp2_with fail
      have HX_1 := Lib.hid (bt HX_0.out HB_1.out)
      have X_1 := Lib.hid ((X_0.out).new HB_1.out)
      have Y_1 := Lib.hid ((Y_0.out).new HB_1.out)
      refine hK.out _ _ (HS.out _ HX_1.out) (fun hHeld2 => ?_)
      clear hHeld
      have hHeld := hHeld2
      clear hHeld2 hK K hk HB_1 HX_0 X_0 Y_0
      try simp only [Act.put, List.getElem_toArray, List.getElem_cons_zero, List.getElem_cons_succ, List.setIfInBounds_toArray, List.set_cons_zero, List.set_cons_succ]
      refine wpAnyH_take (i := 8) (v := ?_) rfl (by kernel_rfl) (by kernel_rfl) (by kernel_rfl) (fun _ _ _ h => h) (Or.inl ⟨by kernel_rfl, ?_⟩) (by assumption) ?_
      rotate_left
      · intro w hSw
        (try dsimp only at hSw)
        go_simp
        all_goals (with_reducible rfl)
      try simp only [Act.put, List.getElem_toArray, List.getElem_cons_zero, List.getElem_cons_succ, List.setIfInBounds_toArray, List.set_cons_zero, List.set_cons_succ]
      refine wpAnyH_done (by kernel_rfl) ?_ _
      clear hHeld
      have HL2 := Lib.hid HX_1.out
      by_cases hk : 0 < k
      · have HE := Lib.hid (show false = C by rw [← HC.out]; exact (decide_eq_false (fun hn => by have := cmpI_gt (hn.1); rw [HKV.out] at this; exact this hk)).symm)
        go_wp2
        go_ret
        exact ⟨by rw [← HE.out]; rfl, bt HBB.out HL2.out⟩
      · have HE := Lib.hid (show p * q' ≤ p' * q from cmpI_ng (by rw [HKV.out]; exact hk))
        have hk' : k ≤ 0 := by omega
        clear hk
        go_wp2
        go_roundw
        case rel => exact ⟨1, by omega, by go_num, HA.out.new HL2.out, HB.out.new HL2.out, H0.out.new HL2.out, H1.out.new HL2.out, H2.out.new HL2.out, H3.out.new HL2.out, Lib.hid ⟨fun _ => HE.out, fun _ => by omega⟩, bt HBB.out HL2.out⟩
        case measure => simp [intOf]
    · have HS : Hid (∀ w', Below wr.heap.size wr w' → (fun w' : World => w'.cell? ⟨h, 4, none⟩ = some (.bool s1) ∧ w'.cell? ⟨h, 5, none⟩ = some (.slice A1 n1 c1) ∧ w'.cell? ⟨h, 6, none⟩ = some (.bool t1) ∧ w'.cell? ⟨h, 7, none⟩ = some (.slice B1 m1 d1) ∧ w'.cell? ⟨(h + 1), 4, none⟩ = some (.bool s3) ∧ w'.cell? ⟨(h + 1), 5, none⟩ = some (.slice A3 n3 c3) ∧ w'.cell? ⟨(h + 1), 6, none⟩ = some (.bool t3) ∧ w'.cell? ⟨(h + 1), 7, none⟩ = some (.slice B3 m3 d3) ∧ Below wr.heap.size wr w') w') := Lib.hid (fun w' hb => ⟨(HA.out.new hb).cells.2.1, (HA.out.new hb).cells.2.2.1, (HA.out.new hb).cells.2.2.2.1, (HA.out.new hb).cells.2.2.2.2, (HB.out.new hb).cells.2.1, (HB.out.new hb).cells.2.2.1, (HB.out.new hb).cells.2.2.2.1, (HB.out.new hb).cells.2.2.2.2, hb⟩)
      have HXX := Lib.hid (Below.refl wr.heap.size wr)
      obtain ⟨k, hk0⟩ : ∃ k, cmpI (u * v') (u' * v) = k := ⟨_, rfl⟩
      have HKV := Lib.hid hk0
      clear hk0
      go_wp2_with fail
      obtain ⟨v0, hv0⟩ : ∃ z, World.drew wr = z := ⟨_, rfl⟩
      have HD0 := Lib.hid (show Below wr.heap.size wr v0 by rw [← hv0]; exact (Below.refl _ _).drew)
      have HX_0 := Lib.hid (bt HXX.out HD0.out)
      have X_0 := Lib.hid ((H1.out).new HD0.out)
      have Y_0 := Lib.hid ((H3.out).new HD0.out)
      refine wp_region_held_drew (S := (fun w' : World => w'.cell? ⟨h, 4, none⟩ = some (.bool s1) ∧ w'.cell? ⟨h, 5, none⟩ = some (.slice A1 n1 c1) ∧ w'.cell? ⟨h, 6, none⟩ = some (.bool t1) ∧ w'.cell? ⟨h, 7, none⟩ = some (.slice B1 m1 d1) ∧ w'.cell? ⟨(h + 1), 4, none⟩ = some (.bool s3) ∧ w'.cell? ⟨(h + 1), 5, none⟩ = some (.slice A3 n3 c3) ∧ w'.cell? ⟨(h + 1), 6, none⟩ = some (.bool t3) ∧ w'.cell? ⟨(h + 1), 7, none⟩ = some (.slice B3 m3 d3) ∧ Below wr.heap.size wr w')) (by kernel_rfl) ?_ (fun hHeld => ?_)
      · rw [hv0]
        exact HS.out _ HX_0.out
      rw [hv0] at hHeld ⊢
      clear hv0 HD0
      refine wpAnyH_take (i := 0) (v := ?_) rfl (by kernel_rfl) (by kernel_rfl) (by kernel_rfl) (fun _ _ _ h => h) (Or.inl ⟨by kernel_rfl, ?_⟩) (by assumption) ?_
      rotate_left
      · intro w hSw
        (try dsimp only at hSw)
        go_simp
        all_goals (with_reducible rfl)
      try simp only [Act.put, List.getElem_toArray, List.getElem_cons_zero, List.setIfInBounds_toArray, List.set_cons_zero, List.set_cons_succ]
      refine wpAnyH_take (i := 1) (v := ?_) rfl (by kernel_rfl) (by kernel_rfl) (by kernel_rfl) (fun _ _ _ h => h) (Or.inl ⟨by kernel_rfl, ?_⟩) (by assumption) ?_
      rotate_left
      · intro w hSw
        (try dsimp only at hSw)
        go_simp
        all_goals (with_reducible rfl)
      try simp only [Act.put, List.getElem_toArray, List.getElem_cons_zero, List.getElem_cons_succ, List.setIfInBounds_toArray, List.set_cons_zero, List.set_cons_succ]
      refine wpAnyH_take (i := 2) (v := ?_) rfl (by kernel_rfl) (by kernel_rfl) (by kernel_rfl) (fun _ _ _ h => h) (Or.inl ⟨by kernel_rfl, ?_⟩) (by assumption) ?_
      rotate_left
      · intro w hSw
        (try dsimp only at hSw)
        go_simp
        all_goals (with_reducible rfl)
      try simp only [Act.put, List.getElem_toArray, List.getElem_cons_zero, List.getElem_cons_succ, List.setIfInBounds_toArray, List.set_cons_zero, List.set_cons_succ]
      refine wpAnyH_take (i := 3) (v := ?_) rfl (by kernel_rfl) (by kernel_rfl) (by kernel_rfl) (fun _ _ _ h => h) (Or.inl ⟨by kernel_rfl, ?_⟩) (by assumption) ?_
      rotate_left
      · intro w hSw
        (try dsimp only at hSw)
        go_simp
        all_goals (with_reducible rfl)
      try simp only [Act.put, List.getElem_toArray, List.getElem_cons_zero, List.getElem_cons_succ, List.setIfInBounds_toArray, List.set_cons_zero, List.set_cons_succ]
      refine wpAnyH_take (i := 4) (v := ?_) rfl (by kernel_rfl) (by kernel_rfl) (by kernel_rfl) (fun _ _ _ h => h) (Or.inl ⟨by kernel_rfl, ?_⟩) (by assumption) ?_
      rotate_left
      · intro w hSw
        (try dsimp only at hSw)
        go_simp
        all_goals (with_reducible rfl)
      try simp only [Act.put, List.getElem_toArray, List.getElem_cons_zero, List.getElem_cons_succ, List.setIfInBounds_toArray, List.set_cons_zero, List.set_cons_succ]
      refine wpAnyH_take (i := 5) (v := ?_) rfl (by kernel_rfl) (by kernel_rfl) (by kernel_rfl) (fun _ _ _ h => h) (Or.inl ⟨by kernel_rfl, ?_⟩) (by assumption) ?_
      rotate_left
      · intro w hSw
        (try dsimp only at hSw)
        go_simp
        all_goals (with_reducible rfl)
      try simp only [Act.put, List.getElem_toArray, List.getElem_cons_zero, List.getElem_cons_succ, List.setIfInBounds_toArray, List.set_cons_zero, List.set_cons_succ]
      refine wpAnyH_take (i := 6) (v := ?_) rfl (by kernel_rfl) (by kernel_rfl) (by kernel_rfl) (fun _ _ _ h => h) (Or.inl ⟨by kernel_rfl, ?_⟩) (by assumption) ?_
      rotate_left
      · intro w hSw
        (try dsimp only at hSw)
        go_simp
        all_goals (with_reducible rfl)
      try simp only [Act.put, List.getElem_toArray, List.getElem_cons_zero, List.getElem_cons_succ, List.setIfInBounds_toArray, List.set_cons_zero, List.set_cons_succ]
      refine wpAnyH_ready (rs := [7]) (by kernel_rfl) (by simp) ?_
      refine AllReadyH.cons rfl (fun K hK => ?_) AllReadyH.nil
      go_simp
      go_at_call 27
      refine (fcompare_any u v u' v' s1 t1 s3 t3 A1 B1 A3 B3 n1 c1 m1 d1 n3 c3 m3 d3 v0 (X_0.out) (Y_0.out) HL.out.2.1.1 HL.out.2.2.2.1 HL.out.2.1.2.1 HL.out.2.1.2.2 HL.out.2.2.2.2.1 HL.out.2.2.2.2.2).mono ?_
      rw [HKV.out]
      rintro e v1 ⟨rfl, hk⟩
      have HB_1 := Lib.hid hk
      go_wp2_with fail
      have HX_1 := Lib.hid (bt HX_0.out HB_1.out)
      have X_1 := Lib.hid ((X_0.out).new HB_1.out)
      have Y_1 := Lib.hid ((Y_0.out).new HB_1.out)
      refine hK.out _ _ (HS.out _ HX_1.out) (fun hHeld2 => ?_)
      clear hHeld
      have hHeld := hHeld2
      clear hHeld2 hK K hk HB_1 HX_0 X_0 Y_0
      try simp only [Act.put, List.getElem_toArray, List.getElem_cons_zero, List.getElem_cons_succ, List.setIfInBounds_toArray, List.set_cons_zero, List.set_cons_succ]
      refine wpAnyH_take (i := 8) (v := ?_) rfl (by kernel_rfl) (by kernel_rfl) (by kernel_rfl) (fun _ _ _ h => h) (Or.inl ⟨by kernel_rfl, ?_⟩) (by assumption) ?_
      rotate_left
      · intro w hSw
        (try dsimp only at hSw)
        go_simp
        all_goals (with_reducible rfl)
      try simp only [Act.put, List.getElem_toArray, List.getElem_cons_zero, List.getElem_cons_succ, List.setIfInBounds_toArray, List.set_cons_zero, List.set_cons_succ]
      refine wpAnyH_done (by kernel_rfl) ?_ _
      clear hHeld
      have HL2 := Lib.hid HX_1.out
      by_cases hk : 0 < k
      · have HE := Lib.hid (show false = C by rw [← HC.out]; exact (decide_eq_false (fun hn => by have := cmpI_gt (hn.2); rw [HKV.out] at this; exact this hk)).symm)
        go_wp2
        go_ret
        exact ⟨by rw [← HE.out]; rfl, bt HBB.out HL2.out⟩
      · have HE := Lib.hid (show u * v' ≤ u' * v from cmpI_ng (by rw [HKV.out]; exact hk))
        have hk' : k ≤ 0 := by omega
        clear hk
        go_wp2
        go_roundw
        case rel => exact ⟨2, by omega, by go_num, HA.out.new HL2.out, HB.out.new HL2.out, H0.out.new HL2.out, H1.out.new HL2.out, H2.out.new HL2.out, H3.out.new HL2.out, Lib.hid ⟨fun _ => hle.out.1 (by omega), fun _ => HE.out⟩, bt HBB.out HL2.out⟩
        case measure => simp [intOf]
    · have HE := Lib.hid (show true = C by rw [← HC.out]; exact (decide_eq_true ⟨hle.out.1 (by omega), hle.out.2 (by omega)⟩).symm)
      go_wp2
      go_ret
      exact ⟨by rw [← HE.out]; rfl, HBB.out⟩
/-- Two boxes have a point in common. -/
def mtV (a b x y a' b' x' y' : Int) : Bool := decide (max a a' ≤ min x x' ∧ max b b' ≤ min y y')
set_option maxRecDepth 100000 in
set_option maxHeartbeats 6400000 in
theorem meets_any (a b x y a' b' x' y' : Int) (w : World) :
    Calls Try.prog 32 #[.agg #[.int .i64 a, .int .i64 b, .int .i64 x, .int .i64 y], .agg #[.int .i64 a', .int .i64 b', .int .i64 x', .int .i64 y']] w fun e w' => e = .returned (.bool (mtV a b x y a' b' x' y')) ∧ Below w.heap.size w w' := by
  obtain ⟨W, hW⟩ : ∃ W, (w.alloc (.cells #[.int .i64 a, .int .i64 b, .int .i64 x, .int .i64 y] 64)).alloc (.cells #[.int .i64 a', .int .i64 b', .int .i64 x', .int .i64 y'] 64) = W := ⟨_, rfl⟩
  have HK := Lib.hid (show Below w.heap.size w W by rw [← hW]; exact ((Below.refl _ w).alloc (Nat.le_refl _) _).alloc (by simp) _)
  have HA := Lib.hid (show P4 64 W w.heap.size (.int .i64 a) (.int .i64 b) (.int .i64 x) (.int .i64 y) by rw [← hW]; exact (P4.lit w _ _ _ _ _).new ((Below.refl _ _).alloc (Nat.le_refl _) _))
  have HB := Lib.hid (show P4 64 W (w.heap.size + 1) (.int .i64 a') (.int .i64 b') (.int .i64 x') (.int .i64 y') by
    rw [← hW]
    have h0 := P4.lit (w.alloc (.cells #[.int .i64 a, .int .i64 b, .int .i64 x, .int .i64 y] 64)) 64 (.int .i64 a') (.int .i64 b') (.int .i64 x') (.int .i64 y')
    rw [World.size_alloc] at h0
    exact h0)
  obtain ⟨a0, a1, a2, a3⟩ := HA.out.cells
  obtain ⟨b0, b1, b2, b3⟩ := HB.out.cells
  have qa2 := fun o => (World.cell?_alloc_lt W o ⟨w.heap.size, 2, none⟩ HA.out.lt).trans a2
  have qa3 := fun o => (World.cell?_alloc_lt W o ⟨w.heap.size, 3, none⟩ HA.out.lt).trans a3
  have qb2 := fun o => (World.cell?_alloc_lt W o ⟨w.heap.size + 1, 2, none⟩ HB.out.lt).trans b2
  have qb3 := fun o => (World.cell?_alloc_lt W o ⟨w.heap.size + 1, 3, none⟩ HB.out.lt).trans b3
  clear a2 a3 b2 b3
  go_enter Try.func32, Try.ntmps32
  go_wp2_with fail
  all_goals
    refine (notgr_any _ _ _ _ _).mono ?_
    rintro e w9 ⟨rfl, hb9⟩
    have HB9 := Lib.hid (bt ((HK.out.alloc HK.out.size _).alloc (HK.out.alloc HK.out.size _).size _) hb9)
    clear hb9 qa2 qa3 qb2 qb3 a0 a1 b0 b1
    go_wp2
    go_ret
    refine ⟨?_, HB9.out⟩
    unfold mtV
    refine congrArg (fun z => Ending.returned (.bool z)) ?_
    rw [← Bool.decide_and]
    exact decide_eq_decide.2 (by omega)
end Go.Proofs.Ytfmccalkfagafaa
