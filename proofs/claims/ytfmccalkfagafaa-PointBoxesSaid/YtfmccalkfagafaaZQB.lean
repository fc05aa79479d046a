/- The contract of the program's In. Conditions: as each statement has them. -/
import Derived.Test.YtfmccalkfagafaaZQA
namespace Go.Proofs.Ytfmccalkfagafaa
open Go.RowKit
attribute [local go_sem ↓] Go.wp_at_zero Go.wp_at_succ
/-- A point lies in a box. -/
def inV (a b x y p q u v : Int) : Bool := ngV a 1 b 1 p q u v && ngV p q u v x 1 y 1
set_option maxRecDepth 100000 in
set_option maxHeartbeats 6400000 in
theorem in_any (a b x y p q u v : Int) (s0 : Bool) (A0 : Option Addr) (n0 c0 : Nat) (t0 : Bool) (B0 : Option Addr) (m0 d0 : Nat) (s1 : Bool) (A1 : Option Addr) (n1 c1 : Nat) (t1 : Bool) (B1 : Option Addr) (m1 d1 : Nat) (w : World) (h0 : PF w s0 A0 n0 c0 t0 B0 m0 d0 p q) (h1 : PF w s1 A1 n1 c1 t1 B1 m1 d1 u v) (hl : (0 < q ∧ p.natAbs < lim ∧ q.natAbs < lim) ∧ (0 < v ∧ u.natAbs < lim ∧ v.natAbs < lim)) (hi : (Lit.int .i64 a).wf = true ∧ (Lit.int .i64 b).wf = true ∧ (Lit.int .i64 x).wf = true ∧ (Lit.int .i64 y).wf = true) :
    Calls Try.prog 29 #[.agg #[.int .i64 a, .int .i64 b, .int .i64 x, .int .i64 y], .agg #[.bool s0, .slice A0 n0 c0, .bool t0, .slice B0 m0 d0, .bool s1, .slice A1 n1 c1, .bool t1, .slice B1 m1 d1]] w fun e w' => e = .returned (.bool (inV a b x y p q u v)) ∧ Below w.heap.size w w' := by
  have HL := Lib.hid hl
  have HI := Lib.hid hi
  clear hl hi
  obtain ⟨W, hW⟩ : ∃ W, (w.alloc (.cells #[.int .i64 a, .int .i64 b, .int .i64 x, .int .i64 y] 64)).alloc (.cells #[.bool s0, .slice A0 n0 c0, .bool t0, .slice B0 m0 d0, .bool s1, .slice A1 n1 c1, .bool t1, .slice B1 m1 d1] 33) = W := ⟨_, rfl⟩
  have HK := Lib.hid (show Below w.heap.size w W by rw [← hW]; exact ((Below.refl _ w).alloc (Nat.le_refl _) _).alloc (by simp) _)
  have HA := Lib.hid (show P4 64 W w.heap.size (.int .i64 a) (.int .i64 b) (.int .i64 x) (.int .i64 y) by rw [← hW]; exact (P4.lit w _ _ _ _ _).new ((Below.refl _ _).alloc (Nat.le_refl _) _))
  have HB := Lib.hid (show P8 33 W (w.heap.size + 1) (.bool s0) (.slice A0 n0 c0) (.bool t0) (.slice B0 m0 d0) (.bool s1) (.slice A1 n1 c1) (.bool t1) (.slice B1 m1 d1) by
    rw [← hW]
    have h0 := P8.lit (w.alloc (.cells #[.int .i64 a, .int .i64 b, .int .i64 x, .int .i64 y] 64)) 33 (.bool s0) (.slice A0 n0 c0) (.bool t0) (.slice B0 m0 d0) (.bool s1) (.slice A1 n1 c1) (.bool t1) (.slice B1 m1 d1)
    rw [World.size_alloc] at h0
    exact h0)
  have H0 := Lib.hid (h0.new HK.out)
  have H1 := Lib.hid (h1.new HK.out)
  clear h0 h1
  obtain ⟨h, hh⟩ : ∃ h, w.heap.size = h := ⟨_, rfl⟩
  rw [hh] at HA HB
  obtain ⟨r1, hr1⟩ : ∃ r, ngV a 1 b 1 p q u v = r := ⟨_, rfl⟩
  obtain ⟨r2, hr2⟩ : ∃ r, ngV p q u v x 1 y 1 = r := ⟨_, rfl⟩
  have HR := Lib.hid (And.intro hr1 hr2)
  have HV := Lib.hid (show inV a b x y p q u v = (r1 && r2) by unfold inV; rw [hr1, hr2])
  rw [HV.out]
  clear hr1 hr2 HV
  go_enter Try.func29, Try.ntmps29
  go_wp2_with fail
  clear hW hh
  have HS : Hid (∀ w', Below W.heap.size W w' → (fun w' : World => w'.cell? ⟨h, 0, none⟩ = some (.int .i64 a) ∧ w'.cell? ⟨h, 1, none⟩ = some (.int .i64 b) ∧ w'.cell? ⟨h, 2, none⟩ = some (.int .i64 x) ∧ w'.cell? ⟨h, 3, none⟩ = some (.int .i64 y) ∧ w'.cell? ⟨(h + 1), 0, none⟩ = some (.bool s0) ∧ w'.cell? ⟨(h + 1), 1, none⟩ = some (.slice A0 n0 c0) ∧ w'.cell? ⟨(h + 1), 2, none⟩ = some (.bool t0) ∧ w'.cell? ⟨(h + 1), 3, none⟩ = some (.slice B0 m0 d0) ∧ w'.cell? ⟨(h + 1), 4, none⟩ = some (.bool s1) ∧ w'.cell? ⟨(h + 1), 5, none⟩ = some (.slice A1 n1 c1) ∧ w'.cell? ⟨(h + 1), 6, none⟩ = some (.bool t1) ∧ w'.cell? ⟨(h + 1), 7, none⟩ = some (.slice B1 m1 d1) ∧ Below W.heap.size W w') w') := Lib.hid (fun w' hb => ⟨(HA.out.new hb).cells.1, (HA.out.new hb).cells.2.1, (HA.out.new hb).cells.2.2.1, (HA.out.new hb).cells.2.2.2, (HB.out.new hb).cells.1.1, (HB.out.new hb).cells.1.2.1, (HB.out.new hb).cells.1.2.2.1, (HB.out.new hb).cells.1.2.2.2, (HB.out.new hb).cells.2.1, (HB.out.new hb).cells.2.2.1, (HB.out.new hb).cells.2.2.2.1, (HB.out.new hb).cells.2.2.2.2, hb⟩)
  have HXX := Lib.hid (Below.refl W.heap.size W)
  cases r1 with
  | true =>
    obtain ⟨v0, hv0⟩ : ∃ z, World.drew W = z := ⟨_, rfl⟩
    have HD0 := Lib.hid (show Below W.heap.size W v0 by rw [← hv0]; exact (Below.refl _ _).drew)
    have HX_0 := Lib.hid (bt HXX.out HD0.out)
    have F0_0 := Lib.hid ((H0.out).new HD0.out)
    have F1_0 := Lib.hid ((H1.out).new HD0.out)
    refine wp_region_held_drew (S := (fun w' : World => w'.cell? ⟨h, 0, none⟩ = some (.int .i64 a) ∧ w'.cell? ⟨h, 1, none⟩ = some (.int .i64 b) ∧ w'.cell? ⟨h, 2, none⟩ = some (.int .i64 x) ∧ w'.cell? ⟨h, 3, none⟩ = some (.int .i64 y) ∧ w'.cell? ⟨(h + 1), 0, none⟩ = some (.bool s0) ∧ w'.cell? ⟨(h + 1), 1, none⟩ = some (.slice A0 n0 c0) ∧ w'.cell? ⟨(h + 1), 2, none⟩ = some (.bool t0) ∧ w'.cell? ⟨(h + 1), 3, none⟩ = some (.slice B0 m0 d0) ∧ w'.cell? ⟨(h + 1), 4, none⟩ = some (.bool s1) ∧ w'.cell? ⟨(h + 1), 5, none⟩ = some (.slice A1 n1 c1) ∧ w'.cell? ⟨(h + 1), 6, none⟩ = some (.bool t1) ∧ w'.cell? ⟨(h + 1), 7, none⟩ = some (.slice B1 m1 d1) ∧ Below W.heap.size W w')) (by kernel_rfl) ?_ (fun hHeld => ?_)
    · rw [hv0]
      exact HS.out _ HX_0.out
    rw [hv0] at hHeld ⊢
    clear hv0 HD0
    refine wpAnyH_take (i := 0) (v := ?_) rfl (by kernel_rfl) (by kernel_rfl) (by kernel_rfl) (fun _ _ _ h => h) (Or.inl ⟨by kernel_rfl, ?_⟩) (by assumption) ?_
    rotate_left
    · intro w hSw
      (try dsimp only at hSw)
      go_simp
      all_goals (with_reducible rfl)
    try simp only [Act.put, List.getElem_toArray, List.getElem_cons_zero, List.setIfInBounds_toArray, List.set_cons_zero, List.set_cons_succ]
    refine wpAnyH_take (i := 1) (v := ?_) rfl (by kernel_rfl) (by kernel_rfl) (by kernel_rfl) (fun _ _ _ h => h) (Or.inl ⟨by kernel_rfl, ?_⟩) (by assumption) ?_
    rotate_left
    · intro w hSw
      (try dsimp only at hSw)
      go_simp
      all_goals (with_reducible rfl)
    try simp only [Act.put, List.getElem_toArray, List.getElem_cons_zero, List.getElem_cons_succ, List.setIfInBounds_toArray, List.set_cons_zero, List.set_cons_succ]
    refine wpAnyH_take (i := 4) (v := ?_) rfl (by kernel_rfl) (by kernel_rfl) (by kernel_rfl) (fun _ _ _ h => h) (Or.inl ⟨by kernel_rfl, ?_⟩) (by assumption) ?_
    rotate_left
    · intro w hSw
      (try dsimp only at hSw)
      go_simp
      all_goals (with_reducible rfl)
    try simp only [Act.put, List.getElem_toArray, List.getElem_cons_zero, List.getElem_cons_succ, List.setIfInBounds_toArray, List.set_cons_zero, List.set_cons_succ]
    refine wpAnyH_ready (rs := [2]) (by kernel_rfl) (by simp) ?_
    refine AllReadyH.cons rfl (fun K hK => ?_) AllReadyH.nil
    go_simp
    go_at_call_of 26 (Value.agg #[.int .i64 a, .int .i64 b])
    refine (pof_any a b v0 HI.out.1 HI.out.2.1).mono ?_
    rintro e v1 ⟨s2, A2, n2, c2, t2, B2, m2, d2, s3, A3, n3, c3, t3, B3, m3, d3, rfl, hr1, hr2, hk⟩
    have F2_1 := Lib.hid (hr1)
    have F3_1 := Lib.hid (hr2)
    have HB_1 := Lib.hid hk
    go_wp2_with fail
    have HX_1 := Lib.hid (bt HX_0.out HB_1.out)
    have F0_1 := Lib.hid ((F0_0.out).new HB_1.out)
    have F1_1 := Lib.hid ((F1_0.out).new HB_1.out)
    refine hK.out _ _ (HS.out _ HX_1.out) (fun hHeld2 => ?_)
    clear hHeld
    have hHeld := hHeld2
    clear hHeld2 hK K hk HB_1 hr1 hr2 HX_0 F0_0 F1_0
    try simp only [Act.put, List.getElem_toArray, List.getElem_cons_zero, List.getElem_cons_succ, List.setIfInBounds_toArray, List.set_cons_zero, List.set_cons_succ]
    refine wpAnyH_ready (rs := [3]) (by kernel_rfl) (by simp) ?_
    refine AllReadyH.cons rfl (fun K hK => ?_) AllReadyH.nil
    go_simp
    go_at_call_of 38 (Value.agg #[.bool s2, .slice A2 n2 c2, .bool t2, .slice B2 m2 d2, .bool s3, .slice A3 n3 c3, .bool t3, .slice B3 m3 d3])
    refine (fractions_any a 1 b 1 s2 A2 n2 c2 t2 B2 m2 d2 s3 A3 n3 c3 t3 B3 m3 d3 v1 (F2_1.out) (F3_1.out)).mono ?_
    rintro e v2 ⟨s4, A4, n4, c4, t4, B4, m4, d4, s5, A5, n5, c5, t5, B5, m5, d5, rfl, hr1, hr2, hk⟩
    have F4_2 := Lib.hid (hr1)
    have F5_2 := Lib.hid (hr2)
    have HB_2 := Lib.hid hk
    go_wp2_with fail
    clear F2_1
    clear F3_1
    have HX_2 := Lib.hid (bt HX_1.out HB_2.out)
    have F0_2 := Lib.hid ((F0_1.out).new HB_2.out)
    have F1_2 := Lib.hid ((F1_1.out).new HB_2.out)
    refine hK.out _ _ (HS.out _ HX_2.out) (fun hHeld2 => ?_)
    clear hHeld
    have hHeld := hHeld2
    clear hHeld2 hK K hk HB_2 hr1 hr2 HX_1 F0_1 F1_1
    try simp only [Act.put, List.getElem_toArray, List.getElem_cons_zero, List.getElem_cons_succ, List.setIfInBounds_toArray, List.set_cons_zero, List.set_cons_succ]
    refine wpAnyH_ready (rs := [5]) (by kernel_rfl) (by simp) ?_
    refine AllReadyH.cons rfl (fun K hK => ?_) AllReadyH.nil
    go_simp
    go_at_call_of 38 (Value.agg #[.bool s0, .slice A0 n0 c0, .bool t0, .slice B0 m0 d0, .bool s1, .slice A1 n1 c1, .bool t1, .slice B1 m1 d1])
    refine (fractions_any p q u v s0 A0 n0 c0 t0 B0 m0 d0 s1 A1 n1 c1 t1 B1 m1 d1 v2 (F0_2.out) (F1_2.out)).mono ?_
    rintro e v3 ⟨s6, A6, n6, c6, t6, B6, m6, d6, s7, A7, n7, c7, t7, B7, m7, d7, rfl, hr1, hr2, hk⟩
    have F6_3 := Lib.hid (hr1)
    have F7_3 := Lib.hid (hr2)
    have HB_3 := Lib.hid hk
    go_wp2_with fail
    have HX_3 := Lib.hid (bt HX_2.out HB_3.out)
    have F0_3 := Lib.hid ((F0_2.out).new HB_3.out)
    have F1_3 := Lib.hid ((F1_2.out).new HB_3.out)
    have F4_3 := Lib.hid ((F4_2.out).new HB_3.out)
    have F5_3 := Lib.hid ((F5_2.out).new HB_3.out)
    refine hK.out _ _ (HS.out _ HX_3.out) (fun hHeld2 => ?_)
    clear hHeld
    have hHeld := hHeld2
    clear hHeld2 hK K hk HB_3 hr1 hr2 HX_2 F0_2 F1_2 F4_2 F5_2
    try simp only [Act.put, List.getElem_toArray, List.getElem_cons_zero, List.getElem_cons_succ, List.setIfInBounds_toArray, List.set_cons_zero, List.set_cons_succ]
    refine wpAnyH_ready (rs := [6]) (by kernel_rfl) (by simp) ?_
    refine AllReadyH.cons rfl (fun K hK => ?_) AllReadyH.nil
    go_simp
    go_at_call 66
    refine (notgrf_any a 1 b 1 p q u v s4 A4 n4 c4 t4 B4 m4 d4 s5 A5 n5 c5 t5 B5 m5 d5 s6 A6 n6 c6 t6 B6 m6 d6 s7 A7 n7 c7 t7 B7 m7 d7 v3 (F4_3.out) (F5_3.out) (F6_3.out) (F7_3.out) ⟨⟨by decide, i64_lim HI.out.1, one_lim⟩, ⟨by decide, i64_lim HI.out.2.1, one_lim⟩, HL.out.1, HL.out.2⟩).mono ?_
    rw [HR.out.1]
    rintro e v4 ⟨rfl, hk⟩
    have HB_4 := Lib.hid hk
    go_wp2_with fail
    clear F4_3
    clear F5_3
    clear F6_3
    clear F7_3
    have HX_4 := Lib.hid (bt HX_3.out HB_4.out)
    have F0_4 := Lib.hid ((F0_3.out).new HB_4.out)
    have F1_4 := Lib.hid ((F1_3.out).new HB_4.out)
    refine hK.out _ _ (HS.out _ HX_4.out) (fun hHeld2 => ?_)
    clear hHeld
    have hHeld := hHeld2
    clear hHeld2 hK K hk HB_4 HX_3 F0_3 F1_3
    try simp only [Act.put, List.getElem_toArray, List.getElem_cons_zero, List.getElem_cons_succ, List.setIfInBounds_toArray, List.set_cons_zero, List.set_cons_succ]
    refine wpAnyH_take (i := 7) (v := ?_) rfl (by kernel_rfl) (by kernel_rfl) (by kernel_rfl) (fun _ _ _ h => h) (Or.inl ⟨by kernel_rfl, ?_⟩) (by assumption) ?_
    rotate_left
    · intro w hSw
      (try dsimp only at hSw)
      go_simp
      all_goals (with_reducible rfl)
    try simp only [Act.put, List.getElem_toArray, List.getElem_cons_zero, List.getElem_cons_succ, List.setIfInBounds_toArray, List.set_cons_zero, List.set_cons_succ]
    refine wpAnyH_take (i := 8) (v := ?_) rfl (by kernel_rfl) (by kernel_rfl) (by kernel_rfl) (fun _ _ _ h => h) (Or.inl ⟨by kernel_rfl, ?_⟩) (by assumption) ?_
    rotate_left
    · intro w hSw
      (try dsimp only at hSw)
      go_simp
      all_goals (with_reducible rfl)
    try simp only [Act.put, List.getElem_toArray, List.getElem_cons_zero, List.getElem_cons_succ, List.setIfInBounds_toArray, List.set_cons_zero, List.set_cons_succ]
    refine wpAnyH_take (i := 10) (v := ?_) rfl (by kernel_rfl) (by kernel_rfl) (by kernel_rfl) (fun _ _ _ h => h) (Or.inl ⟨by kernel_rfl, ?_⟩) (by assumption) ?_
    rotate_left
    · intro w hSw
      (try dsimp only at hSw)
      go_simp
      all_goals (with_reducible rfl)
    try simp only [Act.put, List.getElem_toArray, List.getElem_cons_zero, List.getElem_cons_succ, List.setIfInBounds_toArray, List.set_cons_zero, List.set_cons_succ]
    refine wpAnyH_take (i := 11) (v := ?_) rfl (by kernel_rfl) (by kernel_rfl) (by kernel_rfl) (fun _ _ _ h => h) (Or.inl ⟨by kernel_rfl, ?_⟩) (by assumption) ?_
    rotate_left
    · intro w hSw
      (try dsimp only at hSw)
      go_simp
      all_goals (with_reducible rfl)
    try simp only [Act.put, List.getElem_toArray, List.getElem_cons_zero, List.getElem_cons_succ, List.setIfInBounds_toArray, List.set_cons_zero, List.set_cons_succ]
    refine wpAnyH_ready (rs := [9]) (by kernel_rfl) (by simp) ?_
    refine AllReadyH.cons rfl (fun K hK => ?_) AllReadyH.nil
    go_simp
    go_at_call_of 38 (Value.agg #[.bool s0, .slice A0 n0 c0, .bool t0, .slice B0 m0 d0, .bool s1, .slice A1 n1 c1, .bool t1, .slice B1 m1 d1])
    refine (fractions_any p q u v s0 A0 n0 c0 t0 B0 m0 d0 s1 A1 n1 c1 t1 B1 m1 d1 v4 (F0_4.out) (F1_4.out)).mono ?_
    rintro e v5 ⟨s8, A8, n8, c8, t8, B8, m8, d8, s9, A9, n9, c9, t9, B9, m9, d9, rfl, hr1, hr2, hk⟩
    have F8_5 := Lib.hid (hr1)
    have F9_5 := Lib.hid (hr2)
    have HB_5 := Lib.hid hk
    go_wp2_with fail
    have HX_5 := Lib.hid (bt HX_4.out HB_5.out)
    have F0_5 := Lib.hid ((F0_4.out).new HB_5.out)
    have F1_5 := Lib.hid ((F1_4.out).new HB_5.out)
    refine hK.out _ _ (HS.out _ HX_5.out) (fun hHeld2 => ?_)
    clear hHeld
    have hHeld := hHeld2
    clear hHeld2 hK K hk HB_5 hr1 hr2 HX_4 F0_4 F1_4
    try simp only [Act.put, List.getElem_toArray, List.getElem_cons_zero, List.getElem_cons_succ, List.setIfInBounds_toArray, List.set_cons_zero, List.set_cons_succ]
    refine wpAnyH_ready (rs := [12]) (by kernel_rfl) (by simp) ?_
    refine AllReadyH.cons rfl (fun K hK => ?_) AllReadyH.nil
    go_simp
    go_at_call_of 26 (Value.agg #[.int .i64 x, .int .i64 y])
    refine (pof_any x y v5 HI.out.2.2.1 HI.out.2.2.2).mono ?_
    rintro e v6 ⟨s10, A10, n10, c10, t10, B10, m10, d10, s11, A11, n11, c11, t11, B11, m11, d11, rfl, hr1, hr2, hk⟩
    have F10_6 := Lib.hid (hr1)
    have F11_6 := Lib.hid (hr2)
    have HB_6 := Lib.hid hk
    go_wp2_with fail
    have HX_6 := Lib.hid (bt HX_5.out HB_6.out)
    have F0_6 := Lib.hid ((F0_5.out).new HB_6.out)
    have F1_6 := Lib.hid ((F1_5.out).new HB_6.out)
    have F8_6 := Lib.hid ((F8_5.out).new HB_6.out)
    have F9_6 := Lib.hid ((F9_5.out).new HB_6.out)
    refine hK.out _ _ (HS.out _ HX_6.out) (fun hHeld2 => ?_)
    clear hHeld
    have hHeld := hHeld2
    clear hHeld2 hK K hk HB_6 hr1 hr2 HX_5 F0_5 F1_5 F8_5 F9_5
    try simp only [Act.put, List.getElem_toArray, List.getElem_cons_zero, List.getElem_cons_succ, List.setIfInBounds_toArray, List.set_cons_zero, List.set_cons_succ]
    refine wpAnyH_ready (rs := [13]) (by kernel_rfl) (by simp) ?_
    refine AllReadyH.cons rfl (fun K hK => ?_) AllReadyH.nil
    go_simp
    go_at_call_of 38 (Value.agg #[.bool s10, .slice A10 n10 c10, .bool t10, .slice B10 m10 d10, .bool s11, .slice A11 n11 c11, .bool t11, .slice B11 m11 d11])
    refine (fractions_any x 1 y 1 s10 A10 n10 c10 t10 B10 m10 d10 s11 A11 n11 c11 t11 B11 m11 d11 v6 (F10_6.out) (F11_6.out)).mono ?_
    rintro e v7 ⟨s12, A12, n12, c12, t12, B12, m12, d12, s13, A13, n13, c13, t13, B13, m13, d13, rfl, hr1, hr2, hk⟩
    have F12_7 := Lib.hid (hr1)
    have F13_7 := Lib.hid (hr2)
    have HB_7 := Lib.hid hk
    go_wp2_with fail
    clear F10_6
    clear F11_6
    have HX_7 := Lib.hid (bt HX_6.out HB_7.out)
    have F0_7 := Lib.hid ((F0_6.out).new HB_7.out)
    have F1_7 := Lib.hid ((F1_6.out).new HB_7.out)
    have F8_7 := Lib.hid ((F8_6.out).new HB_7.out)
    have F9_7 := Lib.hid ((F9_6.out).new HB_7.out)
    refine hK.out _ _ (HS.out _ HX_7.out) (fun hHeld2 => ?_)
    clear hHeld
    have hHeld := hHeld2
    clear hHeld2 hK K hk HB_7 hr1 hr2 HX_6 F0_6 F1_6 F8_6 F9_6
    try simp only [Act.put, List.getElem_toArray, List.getElem_cons_zero, List.getElem_cons_succ, List.setIfInBounds_toArray, List.set_cons_zero, List.set_cons_succ]
    refine wpAnyH_ready (rs := [14]) (by kernel_rfl) (by simp) ?_
    refine AllReadyH.cons rfl (fun K hK => ?_) AllReadyH.nil
    go_simp
    go_at_call 66
    refine (notgrf_any p q u v x 1 y 1 s8 A8 n8 c8 t8 B8 m8 d8 s9 A9 n9 c9 t9 B9 m9 d9 s12 A12 n12 c12 t12 B12 m12 d12 s13 A13 n13 c13 t13 B13 m13 d13 v7 (F8_7.out) (F9_7.out) (F12_7.out) (F13_7.out) ⟨HL.out.1, HL.out.2, ⟨by decide, i64_lim HI.out.2.2.1, one_lim⟩, ⟨by decide, i64_lim HI.out.2.2.2, one_lim⟩⟩).mono ?_
    rw [HR.out.2]
    rintro e v8 ⟨rfl, hk⟩
    have HB_8 := Lib.hid hk
    go_wp2_with fail
    clear F8_7
    clear F9_7
    clear F12_7
    clear F13_7
    have HX_8 := Lib.hid (bt HX_7.out HB_8.out)
    have F0_8 := Lib.hid ((F0_7.out).new HB_8.out)
    have F1_8 := Lib.hid ((F1_7.out).new HB_8.out)
    refine hK.out _ _ (HS.out _ HX_8.out) (fun hHeld2 => ?_)
    clear hHeld
    have hHeld := hHeld2
    clear hHeld2 hK K hk HB_8 HX_7 F0_7 F1_7
    try simp only [Act.put, List.getElem_toArray, List.getElem_cons_zero, List.getElem_cons_succ, List.setIfInBounds_toArray, List.set_cons_zero, List.set_cons_succ]
    refine wpAnyH_take (i := 15) (v := ?_) rfl (by kernel_rfl) (by kernel_rfl) (by kernel_rfl) (fun _ _ _ h => h) (Or.inl ⟨by kernel_rfl, ?_⟩) (by assumption) ?_
    rotate_left
    · intro w hSw
      (try dsimp only at hSw)
      go_simp
      all_goals (with_reducible rfl)
    try simp only [Act.put, List.getElem_toArray, List.getElem_cons_zero, List.getElem_cons_succ, List.setIfInBounds_toArray, List.set_cons_zero, List.set_cons_succ]
    refine wpAnyH_take (i := 16) (v := ?_) rfl (by kernel_rfl) (by kernel_rfl) (by kernel_rfl) (fun _ _ _ h => h) (Or.inl ⟨by kernel_rfl, ?_⟩) (by assumption) ?_
    rotate_left
    · intro w hSw
      (try dsimp only at hSw)
      go_simp
      all_goals (with_reducible rfl)
    try simp only [Act.put, List.getElem_toArray, List.getElem_cons_zero, List.getElem_cons_succ, List.setIfInBounds_toArray, List.set_cons_zero, List.set_cons_succ]
    refine wpAnyH_done (by kernel_rfl) ?_ _
    clear hHeld
    have HLB := Lib.hid (bt HK.out HX_8.out)
    go_wp2
    go_ret
    exact ⟨rfl, HLB.out⟩
  | false =>
    obtain ⟨v0, hv0⟩ : ∃ z, World.drew W = z := ⟨_, rfl⟩
    have HD0 := Lib.hid (show Below W.heap.size W v0 by rw [← hv0]; exact (Below.refl _ _).drew)
    have HX_0 := Lib.hid (bt HXX.out HD0.out)
    have F0_0 := Lib.hid ((H0.out).new HD0.out)
    have F1_0 := Lib.hid ((H1.out).new HD0.out)
    refine wp_region_held_drew (S := (fun w' : World => w'.cell? ⟨h, 0, none⟩ = some (.int .i64 a) ∧ w'.cell? ⟨h, 1, none⟩ = some (.int .i64 b) ∧ w'.cell? ⟨h, 2, none⟩ = some (.int .i64 x) ∧ w'.cell? ⟨h, 3, none⟩ = some (.int .i64 y) ∧ w'.cell? ⟨(h + 1), 0, none⟩ = some (.bool s0) ∧ w'.cell? ⟨(h + 1), 1, none⟩ = some (.slice A0 n0 c0) ∧ w'.cell? ⟨(h + 1), 2, none⟩ = some (.bool t0) ∧ w'.cell? ⟨(h + 1), 3, none⟩ = some (.slice B0 m0 d0) ∧ w'.cell? ⟨(h + 1), 4, none⟩ = some (.bool s1) ∧ w'.cell? ⟨(h + 1), 5, none⟩ = some (.slice A1 n1 c1) ∧ w'.cell? ⟨(h + 1), 6, none⟩ = some (.bool t1) ∧ w'.cell? ⟨(h + 1), 7, none⟩ = some (.slice B1 m1 d1) ∧ Below W.heap.size W w')) (by kernel_rfl) ?_ (fun hHeld => ?_)
    · rw [hv0]
      exact HS.out _ HX_0.out
    rw [hv0] at hHeld ⊢
    clear hv0 HD0
    refine wpAnyH_take (i := 0) (v := ?_) rfl (by kernel_rfl) (by kernel_rfl) (by kernel_rfl) (fun _ _ _ h => h) (Or.inl ⟨by kernel_rfl, ?_⟩) (by assumption) ?_
    rotate_left
    · intro w hSw
      (try dsimp only at hSw)
      go_simp
      all_goals (with_reducible rfl)
    try simp only [Act.put, List.getElem_toArray, List.getElem_cons_zero, List.setIfInBounds_toArray, List.set_cons_zero, List.set_cons_succ]
    refine wpAnyH_take (i := 1) (v := ?_) rfl (by kernel_rfl) (by kernel_rfl) (by kernel_rfl) (fun _ _ _ h => h) (Or.inl ⟨by kernel_rfl, ?_⟩) (by assumption) ?_
    rotate_left
    · intro w hSw
      (try dsimp only at hSw)
      go_simp
      all_goals (with_reducible rfl)
    try simp only [Act.put, List.getElem_toArray, List.getElem_cons_zero, List.getElem_cons_succ, List.setIfInBounds_toArray, List.set_cons_zero, List.set_cons_succ]
    refine wpAnyH_take (i := 4) (v := ?_) rfl (by kernel_rfl) (by kernel_rfl) (by kernel_rfl) (fun _ _ _ h => h) (Or.inl ⟨by kernel_rfl, ?_⟩) (by assumption) ?_
    rotate_left
    · intro w hSw
      (try dsimp only at hSw)
      go_simp
      all_goals (with_reducible rfl)
    try simp only [Act.put, List.getElem_toArray, List.getElem_cons_zero, List.getElem_cons_succ, List.setIfInBounds_toArray, List.set_cons_zero, List.set_cons_succ]
    refine wpAnyH_ready (rs := [2]) (by kernel_rfl) (by simp) ?_
    refine AllReadyH.cons rfl (fun K hK => ?_) AllReadyH.nil
    go_simp
    go_at_call_of 26 (Value.agg #[.int .i64 a, .int .i64 b])
    refine (pof_any a b v0 HI.out.1 HI.out.2.1).mono ?_
    rintro e v1 ⟨s2, A2, n2, c2, t2, B2, m2, d2, s3, A3, n3, c3, t3, B3, m3, d3, rfl, hr1, hr2, hk⟩
    have F2_1 := Lib.hid (hr1)
    have F3_1 := Lib.hid (hr2)
    have HB_1 := Lib.hid hk
    go_wp2_with fail
    have HX_1 := Lib.hid (bt HX_0.out HB_1.out)
    have F0_1 := Lib.hid ((F0_0.out).new HB_1.out)
    have F1_1 := Lib.hid ((F1_0.out).new HB_1.out)
    refine hK.out _ _ (HS.out _ HX_1.out) (fun hHeld2 => ?_)
    clear hHeld
    have hHeld := hHeld2
    clear hHeld2 hK K hk HB_1 hr1 hr2 HX_0 F0_0 F1_0
    try simp only [Act.put, List.getElem_toArray, List.getElem_cons_zero, List.getElem_cons_succ, List.setIfInBounds_toArray, List.set_cons_zero, List.set_cons_succ]
    refine wpAnyH_ready (rs := [3]) (by kernel_rfl) (by simp) ?_
    refine AllReadyH.cons rfl (fun K hK => ?_) AllReadyH.nil
    go_simp
    go_at_call_of 38 (Value.agg #[.bool s2, .slice A2 n2 c2, .bool t2, .slice B2 m2 d2, .bool s3, .slice A3 n3 c3, .bool t3, .slice B3 m3 d3])
    refine (fractions_any a 1 b 1 s2 A2 n2 c2 t2 B2 m2 d2 s3 A3 n3 c3 t3 B3 m3 d3 v1 (F2_1.out) (F3_1.out)).mono ?_
    rintro e v2 ⟨s4, A4, n4, c4, t4, B4, m4, d4, s5, A5, n5, c5, t5, B5, m5, d5, rfl, hr1, hr2, hk⟩
    have F4_2 := Lib.hid (hr1)
    have F5_2 := Lib.hid (hr2)
    have HB_2 := Lib.hid hk
    go_wp2_with fail
    clear F2_1
    clear F3_1
    have HX_2 := Lib.hid (bt HX_1.out HB_2.out)
    have F0_2 := Lib.hid ((F0_1.out).new HB_2.out)
    have F1_2 := Lib.hid ((F1_1.out).new HB_2.out)
    refine hK.out _ _ (HS.out _ HX_2.out) (fun hHeld2 => ?_)
    clear hHeld
    have hHeld := hHeld2
    clear hHeld2 hK K hk HB_2 hr1 hr2 HX_1 F0_1 F1_1
    try simp only [Act.put, List.getElem_toArray, List.getElem_cons_zero, List.getElem_cons_succ, List.setIfInBounds_toArray, List.set_cons_zero, List.set_cons_succ]
    refine wpAnyH_ready (rs := [5]) (by kernel_rfl) (by simp) ?_
    refine AllReadyH.cons rfl (fun K hK => ?_) AllReadyH.nil
    go_simp
    go_at_call_of 38 (Value.agg #[.bool s0, .slice A0 n0 c0, .bool t0, .slice B0 m0 d0, .bool s1, .slice A1 n1 c1, .bool t1, .slice B1 m1 d1])
    refine (fractions_any p q u v s0 A0 n0 c0 t0 B0 m0 d0 s1 A1 n1 c1 t1 B1 m1 d1 v2 (F0_2.out) (F1_2.out)).mono ?_
    rintro e v3 ⟨s6, A6, n6, c6, t6, B6, m6, d6, s7, A7, n7, c7, t7, B7, m7, d7, rfl, hr1, hr2, hk⟩
    have F6_3 := Lib.hid (hr1)
    have F7_3 := Lib.hid (hr2)
    have HB_3 := Lib.hid hk
    go_wp2_with fail
    have HX_3 := Lib.hid (bt HX_2.out HB_3.out)
    have F0_3 := Lib.hid ((F0_2.out).new HB_3.out)
    have F1_3 := Lib.hid ((F1_2.out).new HB_3.out)
    have F4_3 := Lib.hid ((F4_2.out).new HB_3.out)
    have F5_3 := Lib.hid ((F5_2.out).new HB_3.out)
    refine hK.out _ _ (HS.out _ HX_3.out) (fun hHeld2 => ?_)
    clear hHeld
    have hHeld := hHeld2
    clear hHeld2 hK K hk HB_3 hr1 hr2 HX_2 F0_2 F1_2 F4_2 F5_2
    try simp only [Act.put, List.getElem_toArray, List.getElem_cons_zero, List.getElem_cons_succ, List.setIfInBounds_toArray, List.set_cons_zero, List.set_cons_succ]
    refine wpAnyH_ready (rs := [6]) (by kernel_rfl) (by simp) ?_
    refine AllReadyH.cons rfl (fun K hK => ?_) AllReadyH.nil
    go_simp
    go_at_call 66
    refine (notgrf_any a 1 b 1 p q u v s4 A4 n4 c4 t4 B4 m4 d4 s5 A5 n5 c5 t5 B5 m5 d5 s6 A6 n6 c6 t6 B6 m6 d6 s7 A7 n7 c7 t7 B7 m7 d7 v3 (F4_3.out) (F5_3.out) (F6_3.out) (F7_3.out) ⟨⟨by decide, i64_lim HI.out.1, one_lim⟩, ⟨by decide, i64_lim HI.out.2.1, one_lim⟩, HL.out.1, HL.out.2⟩).mono ?_
    rw [HR.out.1]
    rintro e v4 ⟨rfl, hk⟩
    have HB_4 := Lib.hid hk
    go_wp2_with fail
    clear F4_3
    clear F5_3
    clear F6_3
    clear F7_3
    have HX_4 := Lib.hid (bt HX_3.out HB_4.out)
    have F0_4 := Lib.hid ((F0_3.out).new HB_4.out)
    have F1_4 := Lib.hid ((F1_3.out).new HB_4.out)
    refine hK.out _ _ (HS.out _ HX_4.out) (fun hHeld2 => ?_)
    clear hHeld
    have hHeld := hHeld2
    clear hHeld2 hK K hk HB_4 HX_3 F0_3 F1_3
    try simp only [Act.put, List.getElem_toArray, List.getElem_cons_zero, List.getElem_cons_succ, List.setIfInBounds_toArray, List.set_cons_zero, List.set_cons_succ]
    refine wpAnyH_take (i := 7) (v := ?_) rfl (by kernel_rfl) (by kernel_rfl) (by kernel_rfl) (fun _ _ _ h => h) (Or.inl ⟨by kernel_rfl, ?_⟩) (by assumption) ?_
    rotate_left
    · intro w hSw
      (try dsimp only at hSw)
      go_simp
      all_goals (with_reducible rfl)
    try simp only [Act.put, List.getElem_toArray, List.getElem_cons_zero, List.getElem_cons_succ, List.setIfInBounds_toArray, List.set_cons_zero, List.set_cons_succ]
    refine wpAnyH_take (i := 8) (v := undef) rfl (by kernel_rfl) (by kernel_rfl) (by kernel_rfl) (fun _ _ _ h => h) (Or.inr ⟨by kernel_rfl, rfl⟩) (by assumption) ?_
    try simp only [Act.put, List.getElem_toArray, List.getElem_cons_zero, List.getElem_cons_succ, List.setIfInBounds_toArray, List.set_cons_zero, List.set_cons_succ]
    refine wpAnyH_take (i := 9) (v := undef) rfl (by kernel_rfl) (by kernel_rfl) (by kernel_rfl) (fun _ _ _ h => h) (Or.inr ⟨by kernel_rfl, rfl⟩) (by assumption) ?_
    try simp only [Act.put, List.getElem_toArray, List.getElem_cons_zero, List.getElem_cons_succ, List.setIfInBounds_toArray, List.set_cons_zero, List.set_cons_succ]
    refine wpAnyH_take (i := 10) (v := undef) rfl (by kernel_rfl) (by kernel_rfl) (by kernel_rfl) (fun _ _ _ h => h) (Or.inr ⟨by kernel_rfl, rfl⟩) (by assumption) ?_
    try simp only [Act.put, List.getElem_toArray, List.getElem_cons_zero, List.getElem_cons_succ, List.setIfInBounds_toArray, List.set_cons_zero, List.set_cons_succ]
    refine wpAnyH_take (i := 11) (v := undef) rfl (by kernel_rfl) (by kernel_rfl) (by kernel_rfl) (fun _ _ _ h => h) (Or.inr ⟨by kernel_rfl, rfl⟩) (by assumption) ?_
    try simp only [Act.put, List.getElem_toArray, List.getElem_cons_zero, List.getElem_cons_succ, List.setIfInBounds_toArray, List.set_cons_zero, List.set_cons_succ]
    refine wpAnyH_take (i := 12) (v := undef) rfl (by kernel_rfl) (by kernel_rfl) (by kernel_rfl) (fun _ _ _ h => h) (Or.inr ⟨by kernel_rfl, rfl⟩) (by assumption) ?_
    try simp only [Act.put, List.getElem_toArray, List.getElem_cons_zero, List.getElem_cons_succ, List.setIfInBounds_toArray, List.set_cons_zero, List.set_cons_succ]
    refine wpAnyH_take (i := 13) (v := undef) rfl (by kernel_rfl) (by kernel_rfl) (by kernel_rfl) (fun _ _ _ h => h) (Or.inr ⟨by kernel_rfl, rfl⟩) (by assumption) ?_
    try simp only [Act.put, List.getElem_toArray, List.getElem_cons_zero, List.getElem_cons_succ, List.setIfInBounds_toArray, List.set_cons_zero, List.set_cons_succ]
    refine wpAnyH_take (i := 14) (v := undef) rfl (by kernel_rfl) (by kernel_rfl) (by kernel_rfl) (fun _ _ _ h => h) (Or.inr ⟨by kernel_rfl, rfl⟩) (by assumption) ?_
    try simp only [Act.put, List.getElem_toArray, List.getElem_cons_zero, List.getElem_cons_succ, List.setIfInBounds_toArray, List.set_cons_zero, List.set_cons_succ]
    refine wpAnyH_take (i := 15) (v := ?_) rfl (by kernel_rfl) (by kernel_rfl) (by kernel_rfl) (fun _ _ _ h => h) (Or.inl ⟨by kernel_rfl, ?_⟩) (by assumption) ?_
    rotate_left
    · intro w hSw
      (try dsimp only at hSw)
      go_simp
      all_goals (with_reducible rfl)
    try simp only [Act.put, List.getElem_toArray, List.getElem_cons_zero, List.getElem_cons_succ, List.setIfInBounds_toArray, List.set_cons_zero, List.set_cons_succ]
    refine wpAnyH_take (i := 16) (v := ?_) rfl (by kernel_rfl) (by kernel_rfl) (by kernel_rfl) (fun _ _ _ h => h) (Or.inl ⟨by kernel_rfl, ?_⟩) (by assumption) ?_
    rotate_left
    · intro w hSw
      (try dsimp only at hSw)
      go_simp
      all_goals (with_reducible rfl)
    try simp only [Act.put, List.getElem_toArray, List.getElem_cons_zero, List.getElem_cons_succ, List.setIfInBounds_toArray, List.set_cons_zero, List.set_cons_succ]
    refine wpAnyH_done (by kernel_rfl) ?_ _
    clear hHeld
    have HLB := Lib.hid (bt HK.out HX_4.out)
    go_wp2
    go_ret
    exact ⟨rfl, HLB.out⟩
end Go.Proofs.Ytfmccalkfagafaa
