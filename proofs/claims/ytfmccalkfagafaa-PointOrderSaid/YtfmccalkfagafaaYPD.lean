/- Contracts of the program's points: order, Compare. Conditions: as each statement has them. -/
import Derived.Test.YtfmccalkfagafaaYPC
namespace Go.Proofs.Ytfmccalkfagafaa
open Go.RowKit
attribute [local go_sem ↓] Go.wp_at_zero Go.wp_at_succ
/-- The order of two points. -/
def pcV (p q u v p' q' u' v' : Int) : Int := if cmpI (p * q') (p' * q) = 0 then cmpI (u * v') (u' * v) else cmpI (p * q') (p' * q)
set_option maxRecDepth 100000 in
set_option maxHeartbeats 6400000 in
theorem porder_any (p q u v p' q' u' v' : Int) (s0 : Bool) (A0 : Option Addr) (n0 c0 : Nat) (t0 : Bool) (B0 : Option Addr) (m0 d0 : Nat) (s1 : Bool) (A1 : Option Addr) (n1 c1 : Nat) (t1 : Bool) (B1 : Option Addr) (m1 d1 : Nat) (s2 : Bool) (A2 : Option Addr) (n2 c2 : Nat) (t2 : Bool) (B2 : Option Addr) (m2 d2 : Nat) (s3 : Bool) (A3 : Option Addr) (n3 c3 : Nat) (t3 : Bool) (B3 : Option Addr) (m3 d3 : Nat) (w : World) (h0 : PF w s0 A0 n0 c0 t0 B0 m0 d0 p q) (h1 : PF w s1 A1 n1 c1 t1 B1 m1 d1 u v) (h2 : PF w s2 A2 n2 c2 t2 B2 m2 d2 p' q') (h3 : PF w s3 A3 n3 c3 t3 B3 m3 d3 u' v') (hl : (0 < q ∧ p.natAbs < lim ∧ q.natAbs < lim) ∧ (0 < v ∧ u.natAbs < lim ∧ v.natAbs < lim) ∧ (0 < q' ∧ p'.natAbs < lim ∧ q'.natAbs < lim) ∧ (0 < v' ∧ u'.natAbs < lim ∧ v'.natAbs < lim)) :
    Calls Try.prog 37 #[.agg #[.bool s0, .slice A0 n0 c0, .bool t0, .slice B0 m0 d0, .bool s1, .slice A1 n1 c1, .bool t1, .slice B1 m1 d1], .agg #[.bool s2, .slice A2 n2 c2, .bool t2, .slice B2 m2 d2, .bool s3, .slice A3 n3 c3, .bool t3, .slice B3 m3 d3], .func (.func 27) #[] #[]] w fun e w' => e = .returned (.int .i64 (pcV p q u v p' q' u' v')) ∧ Below w.heap.size w w' := by
  obtain ⟨C, hC⟩ : ∃ c, pcV p q u v p' q' u' v' = c := ⟨_, rfl⟩
  have HC := Lib.hid hC
  rw [hC]
  clear hC
  have HL := Lib.hid hl
  clear hl
  obtain ⟨W, hW⟩ : ∃ W, (w.alloc (.cells #[.bool s0, .slice A0 n0 c0, .bool t0, .slice B0 m0 d0, .bool s1, .slice A1 n1 c1, .bool t1, .slice B1 m1 d1] 78)).alloc (.cells #[.bool s2, .slice A2 n2 c2, .bool t2, .slice B2 m2 d2, .bool s3, .slice A3 n3 c3, .bool t3, .slice B3 m3 d3] 78) = W := ⟨_, rfl⟩
  have HK := Lib.hid (show Below w.heap.size w W by rw [← hW]; exact ((Below.refl _ w).alloc (Nat.le_refl _) _).alloc (by simp) _)
  have HA := Lib.hid (show P8 78 W w.heap.size (.bool s0) (.slice A0 n0 c0) (.bool t0) (.slice B0 m0 d0) (.bool s1) (.slice A1 n1 c1) (.bool t1) (.slice B1 m1 d1) by rw [← hW]; exact (P8.lit w _ _ _ _ _ _ _ _ _).new ((Below.refl _ _).alloc (Nat.le_refl _) _))
  have HB := Lib.hid (show P8 78 W (w.heap.size + 1) (.bool s2) (.slice A2 n2 c2) (.bool t2) (.slice B2 m2 d2) (.bool s3) (.slice A3 n3 c3) (.bool t3) (.slice B3 m3 d3) by
    rw [← hW]
    have h0 := P8.lit (w.alloc (.cells #[.bool s0, .slice A0 n0 c0, .bool t0, .slice B0 m0 d0, .bool s1, .slice A1 n1 c1, .bool t1, .slice B1 m1 d1] 78)) 78 (.bool s2) (.slice A2 n2 c2) (.bool t2) (.slice B2 m2 d2) (.bool s3) (.slice A3 n3 c3) (.bool t3) (.slice B3 m3 d3)
    rw [World.size_alloc] at h0
    exact h0)
  have H0 := Lib.hid (h0.new HK.out)
  have H1 := Lib.hid (h1.new HK.out)
  have H2 := Lib.hid (h2.new HK.out)
  have H3 := Lib.hid (h3.new HK.out)
  clear h0 h1 h2 h3
  obtain ⟨h, hh⟩ : ∃ h, w.heap.size = h := ⟨_, rfl⟩
  rw [hh] at HA HB
  go_enter Try.func37, Try.ntmps37
  go_wp2_with fail
  clear hW hh
  go_loopw [9] (fun tv wr => ∃ i : Nat, i ≤ 2 ∧ tv = .int .i64 (i : Int) ∧ P8 78 wr h (.bool s0) (.slice A0 n0 c0) (.bool t0) (.slice B0 m0 d0) (.bool s1) (.slice A1 n1 c1) (.bool t1) (.slice B1 m1 d1) ∧ P8 78 wr (h + 1) (.bool s2) (.slice A2 n2 c2) (.bool t2) (.slice B2 m2 d2) (.bool s3) (.slice A3 n3 c3) (.bool t3) (.slice B3 m3 d3) ∧ PF wr s0 A0 n0 c0 t0 B0 m0 d0 p q ∧ PF wr s1 A1 n1 c1 t1 B1 m1 d1 u v ∧ PF wr s2 A2 n2 c2 t2 B2 m2 d2 p' q' ∧ PF wr s3 A3 n3 c3 t3 B3 m3 d3 u' v' ∧ Hid ((0 < i → cmpI (p * q') (p' * q) = 0) ∧ (1 < i → cmpI (u * v') (u' * v) = 0)) ∧ Below w.heap.size w wr) (fun tv _ => 2 - (intOf tv).toNat)
  case atStart => exact ⟨0, by omega, rfl, HA.out, HB.out, H0.out, H1.out, H2.out, H3.out, Lib.hid ⟨fun h => by omega, fun h => by omega⟩, HK.out⟩
  case round =>
    clear HA HB HK H0 H1 H2 H3
    obtain ⟨i, hi, rfl, ha, hb, h0, h1, h2, h3, hle, hbel⟩ := hrel
    have HA := Lib.hid ha
    have HB := Lib.hid hb
    have H0 := Lib.hid h0
    have H1 := Lib.hid h1
    have H2 := Lib.hid h2
    have H3 := Lib.hid h3
    have HBB := Lib.hid hbel
    clear ha hb h0 h1 h2 h3 hbel
    have hi3 : i = 0 ∨ i = 1 ∨ i = 2 := by omega
    rcases hi3 with rfl | rfl | rfl
    · have HS : Hid (∀ w', Below wr.heap.size wr w' → (fun w' : World => w'.cell? ⟨h, 0, none⟩ = some (.bool s0) ∧ w'.cell? ⟨h, 1, none⟩ = some (.slice A0 n0 c0) ∧ w'.cell? ⟨h, 2, none⟩ = some (.bool t0) ∧ w'.cell? ⟨h, 3, none⟩ = some (.slice B0 m0 d0) ∧ w'.cell? ⟨(h + 1), 0, none⟩ = some (.bool s2) ∧ w'.cell? ⟨(h + 1), 1, none⟩ = some (.slice A2 n2 c2) ∧ w'.cell? ⟨(h + 1), 2, none⟩ = some (.bool t2) ∧ w'.cell? ⟨(h + 1), 3, none⟩ = some (.slice B2 m2 d2) ∧ Below wr.heap.size wr w') w') := Lib.hid (fun w' hb => ⟨(HA.out.new hb).cells.1.1, (HA.out.new hb).cells.1.2.1, (HA.out.new hb).cells.1.2.2.1, (HA.out.new hb).cells.1.2.2.2, (HB.out.new hb).cells.1.1, (HB.out.new hb).cells.1.2.1, (HB.out.new hb).cells.1.2.2.1, (HB.out.new hb).cells.1.2.2.2, hb⟩)
      have HXX := Lib.hid (Below.refl wr.heap.size wr)
      obtain ⟨k, hk0⟩ : ∃ k, cmpI (p * q') (p' * q) = k := ⟨_, rfl⟩
      have HKV := Lib.hid hk0
      clear hk0
      go_wp2_with fail
      obtain ⟨v0, hv0⟩ : ∃ z, World.drew wr = z := ⟨_, rfl⟩
      have HD0 := Lib.hid (show Below wr.heap.size wr v0 by rw [← hv0]; exact (Below.refl _ _).drew)
      have HX_0 := Lib.hid (bt HXX.out HD0.out)
      have X_0 := Lib.hid ((H0.out).new HD0.out)
      have Y_0 := Lib.hid ((H2.out).new HD0.out)
      refine wp_region_held_drew (S := (fun w' : World => w'.cell? ⟨h, 0, none⟩ = some (.bool s0) ∧ w'.cell? ⟨h, 1, none⟩ = some (.slice A0 n0 c0) ∧ w'.cell? ⟨h, 2, none⟩ = some (.bool t0) ∧ w'.cell? ⟨h, 3, none⟩ = some (.slice B0 m0 d0) ∧ w'.cell? ⟨(h + 1), 0, none⟩ = some (.bool s2) ∧ w'.cell? ⟨(h + 1), 1, none⟩ = some (.slice A2 n2 c2) ∧ w'.cell? ⟨(h + 1), 2, none⟩ = some (.bool t2) ∧ w'.cell? ⟨(h + 1), 3, none⟩ = some (.slice B2 m2 d2) ∧ Below wr.heap.size wr w')) (by kernel_rfl) ?_ (fun hHeld => ?_)
      · rw [hv0]
        exact HS.out _ HX_0.out
      rw [hv0] at hHeld ⊢
      clear hv0 HD0
      refine wpAnyH_take (i := 0) (v := ?_) rfl (by kernel_rfl) (by kernel_rfl) (by kernel_rfl) (fun _ _ _ h => h) (Or.inl ⟨by kernel_rfl, ?_⟩) (by assumption) ?_
      rotate_left
      · intro w hSw
        (try dsimp only at hSw)
        go_simp
        all_goals (with_reducible rfl)
      try simp only [Act.put, List.getElem_toArray, List.getElem_cons_zero, List.setIfInBounds_toArray, List.set_cons_zero, List.set_cons_succ]
      refine wpAnyH_take (i := 1) (v := ?_) rfl (by kernel_rfl) (by kernel_rfl) (by kernel_rfl) (fun _ _ _ h => h) (Or.inl ⟨by kernel_rfl, ?_⟩) (by assumption) ?_
      rotate_left
      · intro w hSw
        (try dsimp only at hSw)
        go_simp
        all_goals (with_reducible rfl)
      try simp only [Act.put, List.getElem_toArray, List.getElem_cons_zero, List.getElem_cons_succ, List.setIfInBounds_toArray, List.set_cons_zero, List.set_cons_succ]
      refine wpAnyH_take (i := 2) (v := ?_) rfl (by kernel_rfl) (by kernel_rfl) (by kernel_rfl) (fun _ _ _ h => h) (Or.inl ⟨by kernel_rfl, ?_⟩) (by assumption) ?_
      rotate_left
      · intro w hSw
        (try dsimp only at hSw)
        go_simp
        all_goals (with_reducible rfl)
      try simp only [Act.put, List.getElem_toArray, List.getElem_cons_zero, List.getElem_cons_succ, List.setIfInBounds_toArray, List.set_cons_zero, List.set_cons_succ]
      refine wpAnyH_take (i := 3) (v := ?_) rfl (by kernel_rfl) (by kernel_rfl) (by kernel_rfl) (fun _ _ _ h => h) (Or.inl ⟨by kernel_rfl, ?_⟩) (by assumption) ?_
      rotate_left
      · intro w hSw
        (try dsimp only at hSw)
        go_simp
        all_goals (with_reducible rfl)
      try simp only [Act.put, List.getElem_toArray, List.getElem_cons_zero, List.getElem_cons_succ, List.setIfInBounds_toArray, List.set_cons_zero, List.set_cons_succ]
      refine wpAnyH_take (i := 4) (v := ?_) rfl (by kernel_rfl) (by kernel_rfl) (by kernel_rfl) (fun _ _ _ h => h) (Or.inl ⟨by kernel_rfl, ?_⟩) (by assumption) ?_
      rotate_left
      · intro w hSw
        (try dsimp only at hSw)
        go_simp
        all_goals (with_reducible rfl)
      try simp only [Act.put, List.getElem_toArray, List.getElem_cons_zero, List.getElem_cons_succ, List.setIfInBounds_toArray, List.set_cons_zero, List.set_cons_succ]
      refine wpAnyH_take (i := 5) (v := ?_) rfl (by kernel_rfl) (by kernel_rfl) (by kernel_rfl) (fun _ _ _ h => h) (Or.inl ⟨by kernel_rfl, ?_⟩) (by assumption) ?_
      rotate_left
      · intro w hSw
        (try dsimp only at hSw)
        go_simp
        all_goals (with_reducible rfl)
      try simp only [Act.put, List.getElem_toArray, List.getElem_cons_zero, List.getElem_cons_succ, List.setIfInBounds_toArray, List.set_cons_zero, List.set_cons_succ]
      refine wpAnyH_take (i := 6) (v := ?_) rfl (by kernel_rfl) (by kernel_rfl) (by kernel_rfl) (fun _ _ _ h => h) (Or.inl ⟨by kernel_rfl, ?_⟩) (by assumption) ?_
      rotate_left
      · intro w hSw
        (try dsimp only at hSw)
        go_simp
        all_goals (with_reducible rfl)
      try simp only [Act.put, List.getElem_toArray, List.getElem_cons_zero, List.getElem_cons_succ, List.setIfInBounds_toArray, List.set_cons_zero, List.set_cons_succ]
      refine wpAnyH_ready (rs := [7]) (by kernel_rfl) (by simp) ?_
      refine AllReadyH.cons rfl (fun K hK => ?_) AllReadyH.nil
      go_simp
      go_at_call 27
      refine (fcompare_any p q p' q' s0 t0 s2 t2 A0 B0 A2 B2 n0 c0 m0 d0 n2 c2 m2 d2 v0 (X_0.out) (Y_0.out) HL.out.1.1 HL.out.2.2.1.1 HL.out.1.2.1 HL.out.1.2.2 HL.out.2.2.1.2.1 HL.out.2.2.1.2.2).mono ?_
      rw [HKV.out]
      rintro e v1 ⟨rfl, hk⟩
      have HB_1 := Lib.hid hk
      go_wp2_with fail
      have HX_1 := Lib.hid (bt HX_0.out HB_1.out)
      have X_1 := Lib.hid ((X_0.out).new HB_1.out)
      have Y_1 := Lib.hid ((Y_0.out).new HB_1.out)
      refine hK.out _ _ (HS.out _ HX_1.out) (fun hHeld2 => ?_)
      clear hHeld
      have hHeld := hHeld2
      clear hHeld2 hK K hk HB_1 HX_0 X_0 Y_0
      try simp only [Act.put, List.getElem_toArray, List.getElem_cons_zero, List.getElem_cons_succ, List.setIfInBounds_toArray, List.set_cons_zero, List.set_cons_succ]
      refine wpAnyH_take (i := 8) (v := ?_) rfl (by kernel_rfl) (by kernel_rfl) (by kernel_rfl) (fun _ _ _ h => h) (Or.inl ⟨by kernel_rfl, ?_⟩) (by assumption) ?_
      rotate_left
      · intro w hSw
        (try dsimp only at hSw)
        go_simp
        all_goals (with_reducible rfl)
      try simp only [Act.put, List.getElem_toArray, List.getElem_cons_zero, List.getElem_cons_succ, List.setIfInBounds_toArray, List.set_cons_zero, List.set_cons_succ]
      refine wpAnyH_done (by kernel_rfl) ?_ _
      clear hHeld
      have HL2 := Lib.hid HX_1.out
      by_cases hk : k = 0
      · subst hk
        go_wp2
        go_roundw
        case rel => exact ⟨1, by omega, by go_num, HA.out.new HL2.out, HB.out.new HL2.out, H0.out.new HL2.out, H1.out.new HL2.out, H2.out.new HL2.out, H3.out.new HL2.out, Lib.hid ⟨fun _ => HKV.out, fun _ => by omega⟩, bt HBB.out HL2.out⟩
        case measure => simp [intOf]
      · have HE := Lib.hid (show k = C by rw [← HC.out]; unfold pcV; rw [if_neg (by rw [HKV.out]; exact hk), HKV.out])
        have hkb : (k == 0) = false := by simp [hk]
        clear hk
        go_wp2
        go_ret
        exact ⟨by rw [← HE.out]; rfl, bt HBB.out HL2.out⟩
    · have HS : Hid (∀ w', Below wr.heap.size wr w' → (fun w' : World => w'.cell? ⟨h, 4, none⟩ = some (.bool s1) ∧ w'.cell? ⟨h, 5, none⟩ = some (.slice A1 n1 c1) ∧ w'.cell? ⟨h, 6, none⟩ = some (.bool t1) ∧ w'.cell? ⟨h, 7, none⟩ = some (.slice B1 m1 d1) ∧ w'.cell? ⟨(h + 1), 4, none⟩ = some (.bool s3) ∧ w'.cell? ⟨(h + 1), 5, none⟩ = some (.slice A3 n3 c3) ∧ w'.cell? ⟨(h + 1), 6, none⟩ = some (.bool t3) ∧ w'.cell? ⟨(h + 1), 7, none⟩ = some (.slice B3 m3 d3) ∧ Below wr.heap.size wr w') w') := Lib.hid (fun w' hb => ⟨(HA.out.new hb).cells.2.1, (HA.out.new hb).cells.2.2.1, (HA.out.new hb).cells.2.2.2.1, (HA.out.new hb).cells.2.2.2.2, (HB.out.new hb).cells.2.1, (HB.out.new hb).cells.2.2.1, (HB.out.new hb).cells.2.2.2.1, (HB.out.new hb).cells.2.2.2.2, hb⟩)
      have HXX := Lib.hid (Below.refl wr.heap.size wr)
      obtain ⟨k, hk0⟩ : ∃ k, cmpI (u * v') (u' * v) = k := ⟨_, rfl⟩
      have HKV := Lib.hid hk0
      clear hk0
      go_wp2_with fail
      obtain ⟨v0, hv0⟩ : ∃ z, World.drew wr = z := ⟨_, rfl⟩
      have HD0 := Lib.hid (show Below wr.heap.size wr v0 by rw [← hv0]; exact (Below.refl _ _).drew)
      have HX_0 := Lib.hid (bt HXX.out HD0.out)
      have X_0 := Lib.hid ((H1.out).new HD0.out)
      have Y_0 := Lib.hid ((H3.out).new HD0.out)
      refine wp_region_held_drew (S := (fun w' : World => w'.cell? ⟨h, 4, none⟩ = some (.bool s1) ∧ w'.cell? ⟨h, 5, none⟩ = some (.slice A1 n1 c1) ∧ w'.cell? ⟨h, 6, none⟩ = some (.bool t1) ∧ w'.cell? ⟨h, 7, none⟩ = some (.slice B1 m1 d1) ∧ w'.cell? ⟨(h + 1), 4, none⟩ = some (.bool s3) ∧ w'.cell? ⟨(h + 1), 5, none⟩ = some (.slice A3 n3 c3) ∧ w'.cell? ⟨(h + 1), 6, none⟩ = some (.bool t3) ∧ w'.cell? ⟨(h + 1), 7, none⟩ = some (.slice B3 m3 d3) ∧ Below wr.heap.size wr w')) (by kernel_rfl) ?_ (fun hHeld => ?_)
      · rw [hv0]
        exact HS.out _ HX_0.out
      rw [hv0] at hHeld ⊢
      clear hv0 HD0
      refine wpAnyH_take (i := 0) (v := ?_) rfl (by kernel_rfl) (by kernel_rfl) (by kernel_rfl) (fun _ _ _ h => h) (Or.inl ⟨by kernel_rfl, ?_⟩) (by assumption) ?_
      rotate_left
      · intro w hSw
        (try dsimp only at hSw)
        go_simp
        all_goals (with_reducible rfl)
      try simp only [Act.put, List.getElem_toArray, List.getElem_cons_zero, List.setIfInBounds_toArray, List.set_cons_zero, List.set_cons_succ]
      refine wpAnyH_take (i := 1) (v := ?_) rfl (by kernel_rfl) (by kernel_rfl) (by kernel_rfl) (fun _ _ _ h => h) (Or.inl ⟨by kernel_rfl, ?_⟩) (by assumption) ?_
      rotate_left
      · intro w hSw
        (try dsimp only at hSw)
        go_simp
        all_goals (with_reducible rfl)
      try simp only [Act.put, List.getElem_toArray, List.getElem_cons_zero, List.getElem_cons_succ, List.setIfInBounds_toArray, List.set_cons_zero, List.set_cons_succ]
      refine wpAnyH_take (i := 2) (v := ?_) rfl (by kernel_rfl) (by kernel_rfl) (by kernel_rfl) (fun _ _ _ h => h) (Or.inl ⟨by kernel_rfl, ?_⟩) (by assumption) ?_
      rotate_left
      · intro w hSw
        (try dsimp only at hSw)
        go_simp
        all_goals (with_reducible rfl)
      try simp only [Act.put, List.getElem_toArray, List.getElem_cons_zero, List.getElem_cons_succ, List.setIfInBounds_toArray, List.set_cons_zero, List.set_cons_succ]
      refine wpAnyH_take (i := 3) (v := ?_) rfl (by kernel_rfl) (by kernel_rfl) (by kernel_rfl) (fun _ _ _ h => h) (Or.inl ⟨by kernel_rfl, ?_⟩) (by assumption) ?_
      rotate_left
      · intro w hSw
        (try dsimp only at hSw)
        go_simp
        all_goals (with_reducible rfl)
      try simp only [Act.put, List.getElem_toArray, List.getElem_cons_zero, List.getElem_cons_succ, List.setIfInBounds_toArray, List.set_cons_zero, List.set_cons_succ]
      refine wpAnyH_take (i := 4) (v := ?_) rfl (by kernel_rfl) (by kernel_rfl) (by kernel_rfl) (fun _ _ _ h => h) (Or.inl ⟨by kernel_rfl, ?_⟩) (by assumption) ?_
      rotate_left
      · intro w hSw
        (try dsimp only at hSw)
        go_simp
        all_goals (with_reducible rfl)
      try simp only [Act.put, List.getElem_toArray, List.getElem_cons_zero, List.getElem_cons_succ, List.setIfInBounds_toArray, List.set_cons_zero, List.set_cons_succ]
      refine wpAnyH_take (i := 5) (v := ?_) rfl (by kernel_rfl) (by kernel_rfl) (by kernel_rfl) (fun _ _ _ h => h) (Or.inl ⟨by kernel_rfl, ?_⟩) (by assumption) ?_
      rotate_left
      · intro w hSw
        (try dsimp only at hSw)
        go_simp
        all_goals (with_reducible rfl)
      try simp only [Act.put, List.getElem_toArray, List.getElem_cons_zero, List.getElem_cons_succ, List.setIfInBounds_toArray, List.set_cons_zero, List.set_cons_succ]
      refine wpAnyH_take (i := 6) (v := ?_) rfl (by kernel_rfl) (by kernel_rfl) (by kernel_rfl) (fun _ _ _ h => h) (Or.inl ⟨by kernel_rfl, ?_⟩) (by assumption) ?_
      rotate_left
      · intro w hSw
        (try dsimp only at hSw)
        go_simp
        all_goals (with_reducible rfl)
      try simp only [Act.put, List.getElem_toArray, List.getElem_cons_zero, List.getElem_cons_succ, List.setIfInBounds_toArray, List.set_cons_zero, List.set_cons_succ]
      refine wpAnyH_ready (rs := [7]) (by kernel_rfl) (by simp) ?_
      refine AllReadyH.cons rfl (fun K hK => ?_) AllReadyH.nil
      go_simp
      go_at_call 27
      refine (fcompare_any u v u' v' s1 t1 s3 t3 A1 B1 A3 B3 n1 c1 m1 d1 n3 c3 m3 d3 v0 (X_0.out) (Y_0.out) HL.out.2.1.1 HL.out.2.2.2.1 HL.out.2.1.2.1 HL.out.2.1.2.2 HL.out.2.2.2.2.1 HL.out.2.2.2.2.2).mono ?_
      rw [HKV.out]
      rintro e v1 ⟨rfl, hk⟩
      have HB_1 := Lib.hid hk
      go_wp2_with fail
      have HX_1 := Lib.hid (bt HX_0.out HB_1.out)
      have X_1 := Lib.hid ((X_0.out).new HB_1.out)
      have Y_1 := Lib.hid ((Y_0.out).new HB_1.out)
      refine hK.out _ _ (HS.out _ HX_1.out) (fun hHeld2 => ?_)
      clear hHeld
      have hHeld := hHeld2
      clear hHeld2 hK K hk HB_1 HX_0 X_0 Y_0
      try simp only [Act.put, List.getElem_toArray, List.getElem_cons_zero, List.getElem_cons_succ, List.setIfInBounds_toArray, List.set_cons_zero, List.set_cons_succ]
      refine wpAnyH_take (i := 8) (v := ?_) rfl (by kernel_rfl) (by kernel_rfl) (by kernel_rfl) (fun _ _ _ h => h) (Or.inl ⟨by kernel_rfl, ?_⟩) (by assumption) ?_
      rotate_left
      · intro w hSw
        (try dsimp only at hSw)
        go_simp
        all_goals (with_reducible rfl)
      try simp only [Act.put, List.getElem_toArray, List.getElem_cons_zero, List.getElem_cons_succ, List.setIfInBounds_toArray, List.set_cons_zero, List.set_cons_succ]
      refine wpAnyH_done (by kernel_rfl) ?_ _
      clear hHeld
      have HL2 := Lib.hid HX_1.out
      by_cases hk : k = 0
      · subst hk
        go_wp2
        go_roundw
        case rel => exact ⟨2, by omega, by go_num, HA.out.new HL2.out, HB.out.new HL2.out, H0.out.new HL2.out, H1.out.new HL2.out, H2.out.new HL2.out, H3.out.new HL2.out, Lib.hid ⟨fun _ => hle.out.1 (by omega), fun _ => HKV.out⟩, bt HBB.out HL2.out⟩
        case measure => simp [intOf]
      · have HE := Lib.hid (show k = C by rw [← HC.out]; unfold pcV; rw [if_pos (hle.out.1 (by omega)), HKV.out])
        have hkb : (k == 0) = false := by simp [hk]
        clear hk
        go_wp2
        go_ret
        exact ⟨by rw [← HE.out]; rfl, bt HBB.out HL2.out⟩
    · have HE := Lib.hid (show (0 : Int) = C by rw [← HC.out]; unfold pcV; rw [if_pos (hle.out.1 (by omega)), hle.out.2 (by omega)])
      go_wp2
      go_ret
      exact ⟨by rw [← HE.out]; rfl, HBB.out⟩
set_option maxRecDepth 100000 in
set_option maxHeartbeats 6400000 in
theorem ptcompare_any (p q u v p' q' u' v' : Int) (s0 : Bool) (A0 : Option Addr) (n0 c0 : Nat) (t0 : Bool) (B0 : Option Addr) (m0 d0 : Nat) (s1 : Bool) (A1 : Option Addr) (n1 c1 : Nat) (t1 : Bool) (B1 : Option Addr) (m1 d1 : Nat) (s2 : Bool) (A2 : Option Addr) (n2 c2 : Nat) (t2 : Bool) (B2 : Option Addr) (m2 d2 : Nat) (s3 : Bool) (A3 : Option Addr) (n3 c3 : Nat) (t3 : Bool) (B3 : Option Addr) (m3 d3 : Nat) (w : World) (h0 : PF w s0 A0 n0 c0 t0 B0 m0 d0 p q) (h1 : PF w s1 A1 n1 c1 t1 B1 m1 d1 u v) (h2 : PF w s2 A2 n2 c2 t2 B2 m2 d2 p' q') (h3 : PF w s3 A3 n3 c3 t3 B3 m3 d3 u' v') (hl : (0 < q ∧ p.natAbs < lim ∧ q.natAbs < lim) ∧ (0 < v ∧ u.natAbs < lim ∧ v.natAbs < lim) ∧ (0 < q' ∧ p'.natAbs < lim ∧ q'.natAbs < lim) ∧ (0 < v' ∧ u'.natAbs < lim ∧ v'.natAbs < lim)) :
    Calls Try.prog 9 #[.agg #[.bool s0, .slice A0 n0 c0, .bool t0, .slice B0 m0 d0, .bool s1, .slice A1 n1 c1, .bool t1, .slice B1 m1 d1], .agg #[.bool s2, .slice A2 n2 c2, .bool t2, .slice B2 m2 d2, .bool s3, .slice A3 n3 c3, .bool t3, .slice B3 m3 d3]] w fun e w' => e = .returned (.int .i64 (pcV p q u v p' q' u' v')) ∧ Below w.heap.size w w' := by
  have HL := Lib.hid hl
  clear hl
  obtain ⟨W, hW⟩ : ∃ W, (w.alloc (.cells #[.bool s0, .slice A0 n0 c0, .bool t0, .slice B0 m0 d0, .bool s1, .slice A1 n1 c1, .bool t1, .slice B1 m1 d1] 33)).alloc (.cells #[.bool s2, .slice A2 n2 c2, .bool t2, .slice B2 m2 d2, .bool s3, .slice A3 n3 c3, .bool t3, .slice B3 m3 d3] 33) = W := ⟨_, rfl⟩
  have HK := Lib.hid (show Below w.heap.size w W by rw [← hW]; exact ((Below.refl _ w).alloc (Nat.le_refl _) _).alloc (by simp) _)
  have HA := Lib.hid (show P8 33 W w.heap.size (.bool s0) (.slice A0 n0 c0) (.bool t0) (.slice B0 m0 d0) (.bool s1) (.slice A1 n1 c1) (.bool t1) (.slice B1 m1 d1) by rw [← hW]; exact (P8.lit w _ _ _ _ _ _ _ _ _).new ((Below.refl _ _).alloc (Nat.le_refl _) _))
  have HB := Lib.hid (show P8 33 W (w.heap.size + 1) (.bool s2) (.slice A2 n2 c2) (.bool t2) (.slice B2 m2 d2) (.bool s3) (.slice A3 n3 c3) (.bool t3) (.slice B3 m3 d3) by
    rw [← hW]
    have h0 := P8.lit (w.alloc (.cells #[.bool s0, .slice A0 n0 c0, .bool t0, .slice B0 m0 d0, .bool s1, .slice A1 n1 c1, .bool t1, .slice B1 m1 d1] 33)) 33 (.bool s2) (.slice A2 n2 c2) (.bool t2) (.slice B2 m2 d2) (.bool s3) (.slice A3 n3 c3) (.bool t3) (.slice B3 m3 d3)
    rw [World.size_alloc] at h0
    exact h0)
  have H0 := Lib.hid (h0.new HK.out)
  have H1 := Lib.hid (h1.new HK.out)
  have H2 := Lib.hid (h2.new HK.out)
  have H3 := Lib.hid (h3.new HK.out)
  clear h0 h1 h2 h3
  obtain ⟨h, hh⟩ : ∃ h, w.heap.size = h := ⟨_, rfl⟩
  rw [hh] at HA HB
  go_enter Try.func9, Try.ntmps9
  go_wp2_with fail
  clear hW hh
  have HS : Hid (∀ w', Below W.heap.size W w' → (fun w' : World => w'.cell? ⟨h, 0, none⟩ = some (.bool s0) ∧ w'.cell? ⟨h, 1, none⟩ = some (.slice A0 n0 c0) ∧ w'.cell? ⟨h, 2, none⟩ = some (.bool t0) ∧ w'.cell? ⟨h, 3, none⟩ = some (.slice B0 m0 d0) ∧ w'.cell? ⟨h, 4, none⟩ = some (.bool s1) ∧ w'.cell? ⟨h, 5, none⟩ = some (.slice A1 n1 c1) ∧ w'.cell? ⟨h, 6, none⟩ = some (.bool t1) ∧ w'.cell? ⟨h, 7, none⟩ = some (.slice B1 m1 d1) ∧ w'.cell? ⟨(h + 1), 0, none⟩ = some (.bool s2) ∧ w'.cell? ⟨(h + 1), 1, none⟩ = some (.slice A2 n2 c2) ∧ w'.cell? ⟨(h + 1), 2, none⟩ = some (.bool t2) ∧ w'.cell? ⟨(h + 1), 3, none⟩ = some (.slice B2 m2 d2) ∧ w'.cell? ⟨(h + 1), 4, none⟩ = some (.bool s3) ∧ w'.cell? ⟨(h + 1), 5, none⟩ = some (.slice A3 n3 c3) ∧ w'.cell? ⟨(h + 1), 6, none⟩ = some (.bool t3) ∧ w'.cell? ⟨(h + 1), 7, none⟩ = some (.slice B3 m3 d3) ∧ Below W.heap.size W w') w') := Lib.hid (fun w' hb => ⟨(HA.out.new hb).cells.1.1, (HA.out.new hb).cells.1.2.1, (HA.out.new hb).cells.1.2.2.1, (HA.out.new hb).cells.1.2.2.2, (HA.out.new hb).cells.2.1, (HA.out.new hb).cells.2.2.1, (HA.out.new hb).cells.2.2.2.1, (HA.out.new hb).cells.2.2.2.2, (HB.out.new hb).cells.1.1, (HB.out.new hb).cells.1.2.1, (HB.out.new hb).cells.1.2.2.1, (HB.out.new hb).cells.1.2.2.2, (HB.out.new hb).cells.2.1, (HB.out.new hb).cells.2.2.1, (HB.out.new hb).cells.2.2.2.1, (HB.out.new hb).cells.2.2.2.2, hb⟩)
  have HXX := Lib.hid (Below.refl W.heap.size W)
  obtain ⟨v0, hv0⟩ : ∃ z, World.drew W = z := ⟨_, rfl⟩
  have HD0 := Lib.hid (show Below W.heap.size W v0 by rw [← hv0]; exact (Below.refl _ _).drew)
  have HX_0 := Lib.hid (bt HXX.out HD0.out)
  have F0_0 := Lib.hid ((H0.out).new HD0.out)
  have F1_0 := Lib.hid ((H1.out).new HD0.out)
  have F2_0 := Lib.hid ((H2.out).new HD0.out)
  have F3_0 := Lib.hid ((H3.out).new HD0.out)
  refine wp_region_held_drew (S := (fun w' : World => w'.cell? ⟨h, 0, none⟩ = some (.bool s0) ∧ w'.cell? ⟨h, 1, none⟩ = some (.slice A0 n0 c0) ∧ w'.cell? ⟨h, 2, none⟩ = some (.bool t0) ∧ w'.cell? ⟨h, 3, none⟩ = some (.slice B0 m0 d0) ∧ w'.cell? ⟨h, 4, none⟩ = some (.bool s1) ∧ w'.cell? ⟨h, 5, none⟩ = some (.slice A1 n1 c1) ∧ w'.cell? ⟨h, 6, none⟩ = some (.bool t1) ∧ w'.cell? ⟨h, 7, none⟩ = some (.slice B1 m1 d1) ∧ w'.cell? ⟨(h + 1), 0, none⟩ = some (.bool s2) ∧ w'.cell? ⟨(h + 1), 1, none⟩ = some (.slice A2 n2 c2) ∧ w'.cell? ⟨(h + 1), 2, none⟩ = some (.bool t2) ∧ w'.cell? ⟨(h + 1), 3, none⟩ = some (.slice B2 m2 d2) ∧ w'.cell? ⟨(h + 1), 4, none⟩ = some (.bool s3) ∧ w'.cell? ⟨(h + 1), 5, none⟩ = some (.slice A3 n3 c3) ∧ w'.cell? ⟨(h + 1), 6, none⟩ = some (.bool t3) ∧ w'.cell? ⟨(h + 1), 7, none⟩ = some (.slice B3 m3 d3) ∧ Below W.heap.size W w')) (by kernel_rfl) ?_ (fun hHeld => ?_)
  · rw [hv0]
    exact HS.out _ HX_0.out
  rw [hv0] at hHeld ⊢
  clear hv0 HD0
  refine wpAnyH_take (i := 0) (v := ?_) rfl (by kernel_rfl) (by kernel_rfl) (by kernel_rfl) (fun _ _ _ h => h) (Or.inl ⟨by kernel_rfl, ?_⟩) (by assumption) ?_
  rotate_left
  · intro w hSw
    (try dsimp only at hSw)
    go_simp
    all_goals (with_reducible rfl)
  try simp only [Act.put, List.getElem_toArray, List.getElem_cons_zero, List.setIfInBounds_toArray, List.set_cons_zero, List.set_cons_succ]
  refine wpAnyH_take (i := 2) (v := ?_) rfl (by kernel_rfl) (by kernel_rfl) (by kernel_rfl) (fun _ _ _ h => h) (Or.inl ⟨by kernel_rfl, ?_⟩) (by assumption) ?_
  rotate_left
  · intro w hSw
    (try dsimp only at hSw)
    go_simp
    all_goals (with_reducible rfl)
  try simp only [Act.put, List.getElem_toArray, List.getElem_cons_zero, List.getElem_cons_succ, List.setIfInBounds_toArray, List.set_cons_zero, List.set_cons_succ]
  refine wpAnyH_ready (rs := [1]) (by kernel_rfl) (by simp) ?_
  refine AllReadyH.cons rfl (fun K hK => ?_) AllReadyH.nil
  go_simp
  go_at_call_of 38 (Value.agg #[.bool s0, .slice A0 n0 c0, .bool t0, .slice B0 m0 d0, .bool s1, .slice A1 n1 c1, .bool t1, .slice B1 m1 d1])
  refine (fractions_any p q u v s0 A0 n0 c0 t0 B0 m0 d0 s1 A1 n1 c1 t1 B1 m1 d1 v0 (F0_0.out) (F1_0.out)).mono ?_
  rintro e v1 ⟨s4, A4, n4, c4, t4, B4, m4, d4, s5, A5, n5, c5, t5, B5, m5, d5, rfl, hr1, hr2, hk⟩
  have F4_1 := Lib.hid (hr1)
  have F5_1 := Lib.hid (hr2)
  have HB_1 := Lib.hid hk
  go_wp2_with fail
  have HX_1 := Lib.hid (bt HX_0.out HB_1.out)
  have F0_1 := Lib.hid ((F0_0.out).new HB_1.out)
  have F1_1 := Lib.hid ((F1_0.out).new HB_1.out)
  have F2_1 := Lib.hid ((F2_0.out).new HB_1.out)
  have F3_1 := Lib.hid ((F3_0.out).new HB_1.out)
  refine hK.out _ _ (HS.out _ HX_1.out) (fun hHeld2 => ?_)
  clear hHeld
  have hHeld := hHeld2
  clear hHeld2 hK K hk HB_1 hr1 hr2 HX_0 F0_0 F1_0 F2_0 F3_0
  try simp only [Act.put, List.getElem_toArray, List.getElem_cons_zero, List.getElem_cons_succ, List.setIfInBounds_toArray, List.set_cons_zero, List.set_cons_succ]
  refine wpAnyH_ready (rs := [3]) (by kernel_rfl) (by simp) ?_
  refine AllReadyH.cons rfl (fun K hK => ?_) AllReadyH.nil
  go_simp
  go_at_call_of 38 (Value.agg #[.bool s2, .slice A2 n2 c2, .bool t2, .slice B2 m2 d2, .bool s3, .slice A3 n3 c3, .bool t3, .slice B3 m3 d3])
  refine (fractions_any p' q' u' v' s2 A2 n2 c2 t2 B2 m2 d2 s3 A3 n3 c3 t3 B3 m3 d3 v1 (F2_1.out) (F3_1.out)).mono ?_
  rintro e v2 ⟨s6, A6, n6, c6, t6, B6, m6, d6, s7, A7, n7, c7, t7, B7, m7, d7, rfl, hr1, hr2, hk⟩
  have F6_2 := Lib.hid (hr1)
  have F7_2 := Lib.hid (hr2)
  have HB_2 := Lib.hid hk
  go_wp2_with fail
  have HX_2 := Lib.hid (bt HX_1.out HB_2.out)
  have F0_2 := Lib.hid ((F0_1.out).new HB_2.out)
  have F1_2 := Lib.hid ((F1_1.out).new HB_2.out)
  have F2_2 := Lib.hid ((F2_1.out).new HB_2.out)
  have F3_2 := Lib.hid ((F3_1.out).new HB_2.out)
  have F4_2 := Lib.hid ((F4_1.out).new HB_2.out)
  have F5_2 := Lib.hid ((F5_1.out).new HB_2.out)
  refine hK.out _ _ (HS.out _ HX_2.out) (fun hHeld2 => ?_)
  clear hHeld
  have hHeld := hHeld2
  clear hHeld2 hK K hk HB_2 hr1 hr2 HX_1 F0_1 F1_1 F2_1 F3_1 F4_1 F5_1
  try simp only [Act.put, List.getElem_toArray, List.getElem_cons_zero, List.getElem_cons_succ, List.setIfInBounds_toArray, List.set_cons_zero, List.set_cons_succ]
  refine wpAnyH_ready (rs := [4]) (by kernel_rfl) (by simp) ?_
  refine AllReadyH.cons rfl (fun K hK => ?_) AllReadyH.nil
  go_simp
  go_at_call 37
  refine (porder_any p q u v p' q' u' v' s4 A4 n4 c4 t4 B4 m4 d4 s5 A5 n5 c5 t5 B5 m5 d5 s6 A6 n6 c6 t6 B6 m6 d6 s7 A7 n7 c7 t7 B7 m7 d7 v2 (F4_2.out) (F5_2.out) (F6_2.out) (F7_2.out) HL.out).mono ?_
  rintro e v3 ⟨rfl, hk⟩
  have HB_3 := Lib.hid hk
  go_wp2_with fail
  have HX_3 := Lib.hid (bt HX_2.out HB_3.out)
  have F0_3 := Lib.hid ((F0_2.out).new HB_3.out)
  have F1_3 := Lib.hid ((F1_2.out).new HB_3.out)
  have F2_3 := Lib.hid ((F2_2.out).new HB_3.out)
  have F3_3 := Lib.hid ((F3_2.out).new HB_3.out)
  have F4_3 := Lib.hid ((F4_2.out).new HB_3.out)
  have F5_3 := Lib.hid ((F5_2.out).new HB_3.out)
  have F6_3 := Lib.hid ((F6_2.out).new HB_3.out)
  have F7_3 := Lib.hid ((F7_2.out).new HB_3.out)
  refine hK.out _ _ (HS.out _ HX_3.out) (fun hHeld2 => ?_)
  clear hHeld
  have hHeld := hHeld2
  clear hHeld2 hK K hk HB_3 HX_2 F0_2 F1_2 F2_2 F3_2 F4_2 F5_2 F6_2 F7_2
  try simp only [Act.put, List.getElem_toArray, List.getElem_cons_zero, List.getElem_cons_succ, List.setIfInBounds_toArray, List.set_cons_zero, List.set_cons_succ]
  refine wpAnyH_take (i := 5) (v := ?_) rfl (by kernel_rfl) (by kernel_rfl) (by kernel_rfl) (fun _ _ _ h => h) (Or.inl ⟨by kernel_rfl, ?_⟩) (by assumption) ?_
  rotate_left
  · intro w hSw
    (try dsimp only at hSw)
    go_simp
    all_goals (with_reducible rfl)
  try simp only [Act.put, List.getElem_toArray, List.getElem_cons_zero, List.getElem_cons_succ, List.setIfInBounds_toArray, List.set_cons_zero, List.set_cons_succ]
  refine wpAnyH_done (by kernel_rfl) ?_ _
  clear hHeld
  have HLB := Lib.hid (bt HK.out HX_3.out)
  go_wp2
  go_ret
  exact ⟨rfl, HLB.out⟩

end Go.Proofs.Ytfmccalkfagafaa
