/- Contracts of the reference's Add and Sub. -/
import Derived.Test.YtpcliampffeknaaNR4
namespace Go.Proofs.Ytpcliampffeknaa
open Go.RowKit
attribute [local go_sem ↓] Go.wp_at_zero Go.wp_at_succ

theorem digs_len9 {B : Nat} (hB : 2 ≤ B) {l : List Nat} (h : Dig B l) : (digs B (val B l)).length ≤ l.length := digs_len_le hB (val_lt (by omega) h)
theorem cells4 {t : TypeId} {w : World} {b b' : Nat} {v0 v1 u0 u1 : Value} (h : P2 t w b v0 v1) (h' : P2 t w b' u0 u1) :
    w.cell? ⟨b, 0, none⟩ = some v0 ∧ w.cell? ⟨b, 1, none⟩ = some v1 ∧ w.cell? ⟨b', 0, none⟩ = some u0 ∧ w.cell? ⟨b', 1, none⟩ = some u1 := ⟨h.cells.1, h.cells.2, h'.cells.1, h'.cells.2⟩
theorem add_same {x y : Int} {s : Bool} (hx : s = decide (x < 0)) (hy : s = decide (y < 0)) : sgn s (x.natAbs + y.natAbs) = x + y := by
  subst hx
  unfold sgn
  by_cases h : x < 0 <;> by_cases h' : y < 0 <;> simp [h, h'] at hy ⊢ <;> omega
theorem add_gt {x y : Int} {s s' : Bool} (hx : s = decide (x < 0)) (hy : s' = decide (y < 0)) (hne : s ≠ s') (h : y.natAbs ≤ x.natAbs) : sgn s (x.natAbs - y.natAbs) = x + y := by
  subst hx hy
  unfold sgn
  by_cases h1 : x < 0 <;> by_cases h2 : y < 0 <;> simp [h1, h2] at hne ⊢ <;> omega
theorem add_lt {x y : Int} {s s' : Bool} (hx : s = decide (x < 0)) (hy : s' = decide (y < 0)) (hne : s ≠ s') (h : x.natAbs ≤ y.natAbs) : sgn s' (y.natAbs - x.natAbs) = x + y := by
  subst hx hy
  unfold sgn
  by_cases h1 : x < 0 <;> by_cases h2 : y < 0 <;> simp [h1, h2] at hne ⊢ <;> omega

set_option maxRecDepth 100000 in
set_option maxHeartbeats 1600000 in
theorem add_same_any (x y : Int) (s : Bool) (A A' : Option Addr) (n c n' c' : Nat) (w : World) (hx : RN w s A n c x) (hy : RN w s A' n' c' y) (hn : n ≤ 900000) (hn' : n' ≤ 900000) :
    Calls Try.prog 25 #[.agg #[.bool s, .slice A n c], .agg #[.bool s, .slice A' n' c']] w (RetN (x + y) w) := by
  have HSX := Lib.hid hx.1
  have HSY := Lib.hid hy.1
  have HN := Lib.hid hx.2.1
  have HN' := Lib.hid hy.2.1
  have HLX := Lib.hid hx.2.2
  have HLY := Lib.hid hy.2.2
  clear hx hy
  have HK := Lib.hid (show Below w.heap.size w (W3 25 w (.bool s) (.slice A n c) (.bool s) (.slice A' n' c') (.bool false) (.slice none 0 0)).drew from (W3_k 25 w (.bool s) (.slice A n c) (.bool s) (.slice A' n' c') (.bool false) (.slice none 0 0)).drew)
  have HA := Lib.hid (show P2 25 (W3 25 w (.bool s) (.slice A n c) (.bool s) (.slice A' n' c') (.bool false) (.slice none 0 0)).drew w.heap.size (.bool s) (.slice A n c) from (W3_a 25 w (.bool s) (.slice A n c) (.bool s) (.slice A' n' c') (.bool false) (.slice none 0 0)))
  have HB := Lib.hid (show P2 25 (W3 25 w (.bool s) (.slice A n c) (.bool s) (.slice A' n' c') (.bool false) (.slice none 0 0)).drew (w.heap.size + 1) (.bool s) (.slice A' n' c') from (W3_b 25 w (.bool s) (.slice A n c) (.bool s) (.slice A' n' c') (.bool false) (.slice none 0 0)))
  have HZ := Lib.hid (show P2 25 (W3 25 w (.bool s) (.slice A n c) (.bool s) (.slice A' n' c') (.bool false) (.slice none 0 0)).drew (w.heap.size + 1 + 1) (.bool false) (.slice none 0 0) from (W3_z 25 w (.bool s) (.slice A n c) (.bool s) (.slice A' n' c') (.bool false) (.slice none 0 0)))
  go_enter Try.func25, Try.ntmps25
  go_wp2_with fail
  go_region_held3 (fun w' => w'.cell? ⟨w.heap.size, 0, none⟩ = some (.bool s) ∧ w'.cell? ⟨w.heap.size, 1, none⟩ = some (.slice A n c) ∧ w'.cell? ⟨w.heap.size + 1, 0, none⟩ = some (.bool s) ∧ w'.cell? ⟨w.heap.size + 1, 1, none⟩ = some (.slice A' n' c')) (first | assumption | exact cells4 HA.out HB.out | exact cells4 (hA6.out.far2 (by omega) _ _) (hB6.out.far2 (by omega) _ _) | go_keep)
    (first | (go_at_call 57; refine (plus_any _ _ A A' n n' c c' _ (dig_digs (by decide) x.natAbs) (dig_digs (by decide) y.natAbs) (HLX.out.new HK.out) (HLY.out.new HK.out) hn hn').mono ?_; rintro e w5 ⟨A5, n5, c5, o5, rfl, hli5, hlo5, hd5, ⟨hv5, hlen5⟩, hb5⟩; have hS5 := cells4 (HA.out.new hb5) (HB.out.new hb5)) | (go_at_call 50; refine (normal_any s o5 A5 n5 c5 _ hd5 hli5.weak (by omega)).mono ?_; rintro e w6 ⟨neg6, A6, n6, c6, rfl, hrn, hb6⟩; have hA6 := Lib.hid ((HA.out.new hb5).new hb6); have hB6 := Lib.hid ((HB.out.new hb5).new hb6); have hZ6 := Lib.hid ((HZ.out.new hb5).new hb6); have hS6 := cells4 ((HA.out.new hb5).new hb6) ((HB.out.new hb5).new hb6); have hc60 := ((HZ.out.new hb5).new hb6).cells.1; have hc61 := ((HZ.out.new hb5).new hb6).cells.2; have hf60 := ((HZ.out.new hb5).new hb6).frozen 0; have hf61 := ((HZ.out.new hb5).new hb6).frozen 1))
  have HR := Lib.hid (hrn.eq (y := x + y) (by rw [hv5, val_rn, val_rn]; exact add_same HSX.out HSY.out))
  have HBB := Lib.hid ((HK.out.trans (hb5.mono HK.out.size)).trans (hb6.mono (HK.out.trans (hb5.mono HK.out.size)).size))
  clear hrn hb5 hb6 hS5 hS6
  go_wp2
  exact bodyPost_ret (results_cell_row rfl _ _ _ _ _ _ _ rfl (hZ6.out.all (.bool neg6) (.slice A6 n6 c6)) Try.underlying25 rfl N_size) rfl (RNo.stored HR.out hZ6.out rfl rfl HBB.out (by omega) _ _)
set_option maxRecDepth 100000 in
set_option maxHeartbeats 1600000 in
theorem add_lt_any (x y : Int) (s s' : Bool) (A A' : Option Addr) (n c n' c' : Nat) (w : World) (hx : RN w s A n c x) (hy : RN w s' A' n' c' y) (hn : n ≤ 900000) (hn' : n' ≤ 900000) (hne : s ≠ s') (hlt : x.natAbs < y.natAbs) :
    Calls Try.prog 25 #[.agg #[.bool s, .slice A n c], .agg #[.bool s', .slice A' n' c']] w (RetN (x + y) w) := by
  have HSX := Lib.hid hx.1
  have HSY := Lib.hid hy.1
  have HN := Lib.hid hx.2.1
  have HN' := Lib.hid hy.2.1
  have HLX := Lib.hid hx.2.2
  have HLY := Lib.hid hy.2.2
  clear hx hy
  have HK := Lib.hid (show Below w.heap.size w (W3 25 w (.bool s) (.slice A n c) (.bool s') (.slice A' n' c') (.bool false) (.slice none 0 0)) from (W3_k 25 w (.bool s) (.slice A n c) (.bool s') (.slice A' n' c') (.bool false) (.slice none 0 0)))
  have HA := Lib.hid (show P2 25 (W3 25 w (.bool s) (.slice A n c) (.bool s') (.slice A' n' c') (.bool false) (.slice none 0 0)) w.heap.size (.bool s) (.slice A n c) from (W3_a 25 w (.bool s) (.slice A n c) (.bool s') (.slice A' n' c') (.bool false) (.slice none 0 0)))
  have HB := Lib.hid (show P2 25 (W3 25 w (.bool s) (.slice A n c) (.bool s') (.slice A' n' c') (.bool false) (.slice none 0 0)) (w.heap.size + 1) (.bool s') (.slice A' n' c') from (W3_b 25 w (.bool s) (.slice A n c) (.bool s') (.slice A' n' c') (.bool false) (.slice none 0 0)))
  have HZ := Lib.hid (show P2 25 (W3 25 w (.bool s) (.slice A n c) (.bool s') (.slice A' n' c') (.bool false) (.slice none 0 0)) (w.heap.size + 1 + 1) (.bool false) (.slice none 0 0) from (W3_z 25 w (.bool s) (.slice A n c) (.bool s') (.slice A' n' c') (.bool false) (.slice none 0 0)))
  have hsb : (s == s') = false := beq_eq_false_iff_ne.2 hne
  obtain ⟨v, hv⟩ : ∃ v, cmpN x.natAbs y.natAbs = v := ⟨_, rfl⟩
  have hv0 : v < 0 := by rw [← hv, cmpN_lt hlt]; decide
  have HV := Lib.hid hv
  clear hv
  go_enter Try.func25, Try.ntmps25
  go_wp2_with fail
  refine (compared_any x.natAbs y.natAbs A A' n n' c c' (W3 25 w (.bool s) (.slice A n c) (.bool s') (.slice A' n' c') (.bool false) (.slice none 0 0)) (HLX.out.new HK.out) (HLY.out.new HK.out) (by omega) (by omega)).mono ?_
  rintro e w4 ⟨rfl, hb4⟩
  rw [HV.out]
  have HK4 := Lib.hid (show Below w.heap.size w w4.drew from (HK.out.trans (hb4.mono HK.out.size)).drew)
  have HA4 := Lib.hid (show P2 25 w4.drew w.heap.size (.bool s) (.slice A n c) from HA.out.new hb4.drew)
  have HB4 := Lib.hid (show P2 25 w4.drew (w.heap.size + 1) (.bool s') (.slice A' n' c') from HB.out.new hb4.drew)
  have HZ4 := Lib.hid (show P2 25 w4.drew (w.heap.size + 1 + 1) (.bool false) (.slice none 0 0) from HZ.out.new hb4.drew)
  clear hb4
  go_wp2_with fail
  go_region_held3 (fun w' => w'.cell? ⟨w.heap.size, 0, none⟩ = some (.bool s) ∧ w'.cell? ⟨w.heap.size, 1, none⟩ = some (.slice A n c) ∧ w'.cell? ⟨w.heap.size + 1, 0, none⟩ = some (.bool s') ∧ w'.cell? ⟨w.heap.size + 1, 1, none⟩ = some (.slice A' n' c')) (first | assumption | exact cells4 HA4.out HB4.out | exact cells4 (hA6.out.far2 (by omega) _ _) (hB6.out.far2 (by omega) _ _) | go_keep)
    (first | (go_at_call 59; refine (minus_any _ _ A' A n' n c' c _ (dig_digs (by decide) y.natAbs) (dig_digs (by decide) x.natAbs) (HLY.out.new HK4.out) (HLX.out.new HK4.out) hn' hn (by rw [val_rn, val_rn]; omega)).mono ?_; rintro e w5 ⟨A5, n5, c5, o5, rfl, hli5, hlo5, hd5, ⟨hv5, hlen5⟩, hb5⟩; have hS5 := cells4 (HA4.out.new hb5) (HB4.out.new hb5)) | (go_at_call 50; refine (normal_any s' o5 A5 n5 c5 _ hd5 hli5.weak (by omega)).mono ?_; rintro e w6 ⟨neg6, A6, n6, c6, rfl, hrn, hb6⟩; have hA6 := Lib.hid ((HA4.out.new hb5).new hb6); have hB6 := Lib.hid ((HB4.out.new hb5).new hb6); have hZ6 := Lib.hid ((HZ4.out.new hb5).new hb6); have hS6 := cells4 ((HA4.out.new hb5).new hb6) ((HB4.out.new hb5).new hb6); have hc60 := ((HZ4.out.new hb5).new hb6).cells.1; have hc61 := ((HZ4.out.new hb5).new hb6).cells.2; have hf60 := ((HZ4.out.new hb5).new hb6).frozen 0; have hf61 := ((HZ4.out.new hb5).new hb6).frozen 1))
  have HR := Lib.hid (hrn.eq (y := x + y) (by rw [hv5, val_rn, val_rn]; exact add_lt HSX.out HSY.out hne (Nat.le_of_lt hlt)))
  have HBB := Lib.hid ((HK4.out.trans (hb5.mono HK4.out.size)).trans (hb6.mono (HK4.out.trans (hb5.mono HK4.out.size)).size))
  clear hrn hb5 hb6 hS5 hS6
  go_wp2
  exact bodyPost_ret (results_cell_row rfl _ _ _ _ _ _ _ rfl (hZ6.out.all (.bool neg6) (.slice A6 n6 c6)) Try.underlying25 rfl N_size) rfl (RNo.stored HR.out hZ6.out rfl rfl HBB.out (by omega) _ _)
set_option maxRecDepth 100000 in
set_option maxHeartbeats 1600000 in
theorem add_ge_any (x y : Int) (s s' : Bool) (A A' : Option Addr) (n c n' c' : Nat) (w : World) (hx : RN w s A n c x) (hy : RN w s' A' n' c' y) (hn : n ≤ 900000) (hn' : n' ≤ 900000) (hne : s ≠ s') (hge : y.natAbs ≤ x.natAbs) :
    Calls Try.prog 25 #[.agg #[.bool s, .slice A n c], .agg #[.bool s', .slice A' n' c']] w (RetN (x + y) w) := by
  have HSX := Lib.hid hx.1
  have HSY := Lib.hid hy.1
  have HN := Lib.hid hx.2.1
  have HN' := Lib.hid hy.2.1
  have HLX := Lib.hid hx.2.2
  have HLY := Lib.hid hy.2.2
  clear hx hy
  have HK := Lib.hid (show Below w.heap.size w (W3 25 w (.bool s) (.slice A n c) (.bool s') (.slice A' n' c') (.bool false) (.slice none 0 0)) from (W3_k 25 w (.bool s) (.slice A n c) (.bool s') (.slice A' n' c') (.bool false) (.slice none 0 0)))
  have HA := Lib.hid (show P2 25 (W3 25 w (.bool s) (.slice A n c) (.bool s') (.slice A' n' c') (.bool false) (.slice none 0 0)) w.heap.size (.bool s) (.slice A n c) from (W3_a 25 w (.bool s) (.slice A n c) (.bool s') (.slice A' n' c') (.bool false) (.slice none 0 0)))
  have HB := Lib.hid (show P2 25 (W3 25 w (.bool s) (.slice A n c) (.bool s') (.slice A' n' c') (.bool false) (.slice none 0 0)) (w.heap.size + 1) (.bool s') (.slice A' n' c') from (W3_b 25 w (.bool s) (.slice A n c) (.bool s') (.slice A' n' c') (.bool false) (.slice none 0 0)))
  have HZ := Lib.hid (show P2 25 (W3 25 w (.bool s) (.slice A n c) (.bool s') (.slice A' n' c') (.bool false) (.slice none 0 0)) (w.heap.size + 1 + 1) (.bool false) (.slice none 0 0) from (W3_z 25 w (.bool s) (.slice A n c) (.bool s') (.slice A' n' c') (.bool false) (.slice none 0 0)))
  have hsb : (s == s') = false := beq_eq_false_iff_ne.2 hne
  obtain ⟨v, hv⟩ : ∃ v, cmpN x.natAbs y.natAbs = v := ⟨_, rfl⟩
  have hv0 : ¬ v < 0 := by rw [← hv, cmpN, if_neg (by omega)]; split <;> decide
  have HV := Lib.hid hv
  clear hv
  go_enter Try.func25, Try.ntmps25
  go_wp2_with fail
  refine (compared_any x.natAbs y.natAbs A A' n n' c c' (W3 25 w (.bool s) (.slice A n c) (.bool s') (.slice A' n' c') (.bool false) (.slice none 0 0)) (HLX.out.new HK.out) (HLY.out.new HK.out) (by omega) (by omega)).mono ?_
  rintro e w4 ⟨rfl, hb4⟩
  rw [HV.out]
  have HK4 := Lib.hid (show Below w.heap.size w w4.drew from (HK.out.trans (hb4.mono HK.out.size)).drew)
  have HA4 := Lib.hid (show P2 25 w4.drew w.heap.size (.bool s) (.slice A n c) from HA.out.new hb4.drew)
  have HB4 := Lib.hid (show P2 25 w4.drew (w.heap.size + 1) (.bool s') (.slice A' n' c') from HB.out.new hb4.drew)
  have HZ4 := Lib.hid (show P2 25 w4.drew (w.heap.size + 1 + 1) (.bool false) (.slice none 0 0) from HZ.out.new hb4.drew)
  clear hb4
  go_wp2_with fail
  go_region_held3 (fun w' => w'.cell? ⟨w.heap.size, 0, none⟩ = some (.bool s) ∧ w'.cell? ⟨w.heap.size, 1, none⟩ = some (.slice A n c) ∧ w'.cell? ⟨w.heap.size + 1, 0, none⟩ = some (.bool s') ∧ w'.cell? ⟨w.heap.size + 1, 1, none⟩ = some (.slice A' n' c')) (first | assumption | exact cells4 HA4.out HB4.out | exact cells4 (hA6.out.far2 (by omega) _ _) (hB6.out.far2 (by omega) _ _) | go_keep)
    (first | (go_at_call 59; refine (minus_any _ _ A A' n n' c c' _ (dig_digs (by decide) x.natAbs) (dig_digs (by decide) y.natAbs) (HLX.out.new HK4.out) (HLY.out.new HK4.out) hn hn' (by rw [val_rn, val_rn]; omega)).mono ?_; rintro e w5 ⟨A5, n5, c5, o5, rfl, hli5, hlo5, hd5, ⟨hv5, hlen5⟩, hb5⟩; have hS5 := cells4 (HA4.out.new hb5) (HB4.out.new hb5)) | (go_at_call 50; refine (normal_any s o5 A5 n5 c5 _ hd5 hli5.weak (by omega)).mono ?_; rintro e w6 ⟨neg6, A6, n6, c6, rfl, hrn, hb6⟩; have hA6 := Lib.hid ((HA4.out.new hb5).new hb6); have hB6 := Lib.hid ((HB4.out.new hb5).new hb6); have hZ6 := Lib.hid ((HZ4.out.new hb5).new hb6); have hS6 := cells4 ((HA4.out.new hb5).new hb6) ((HB4.out.new hb5).new hb6); have hc60 := ((HZ4.out.new hb5).new hb6).cells.1; have hc61 := ((HZ4.out.new hb5).new hb6).cells.2; have hf60 := ((HZ4.out.new hb5).new hb6).frozen 0; have hf61 := ((HZ4.out.new hb5).new hb6).frozen 1))
  have HR := Lib.hid (hrn.eq (y := x + y) (by rw [hv5, val_rn, val_rn]; exact add_gt HSX.out HSY.out hne hge))
  have HBB := Lib.hid ((HK4.out.trans (hb5.mono HK4.out.size)).trans (hb6.mono (HK4.out.trans (hb5.mono HK4.out.size)).size))
  clear hrn hb5 hb6 hS5 hS6
  go_wp2
  exact bodyPost_ret (results_cell_row rfl _ _ _ _ _ _ _ rfl (hZ6.out.all (.bool neg6) (.slice A6 n6 c6)) Try.underlying25 rfl N_size) rfl (RNo.stored HR.out hZ6.out rfl rfl HBB.out (by omega) _ _)
theorem add_any (x y : Int) (s s' : Bool) (A A' : Option Addr) (n c n' c' : Nat) (w : World) (hx : RN w s A n c x) (hy : RN w s' A' n' c' y) (hn : n ≤ 900000) (hn' : n' ≤ 900000) :
    Calls Try.prog 25 #[.agg #[.bool s, .slice A n c], .agg #[.bool s', .slice A' n' c']] w (RetN (x + y) w) := by
  by_cases h : s = s'
  · subst h
    exact add_same_any x y s A A' n c n' c' w hx hy hn hn'
  · rcases Nat.lt_or_ge x.natAbs y.natAbs with h1 | h1
    · exact add_lt_any x y s s' A A' n c n' c' w hx hy hn hn' h h1
    · exact add_ge_any x y s s' A A' n c n' c' w hx hy hn hn' h h1
end Go.Proofs.Ytpcliampffeknaa
