/- Contracts of the program's integers: Sub, Div. -/
import Derived.Test.YtpcliampffeknaaNPf
namespace Go.Proofs.Ytpcliampffeknaa
open Go.RowKit
attribute [local go_sem ↓] Go.wp_at_zero Go.wp_at_succ

theorem cells_agg {t : TypeId} {w : World} {b : Nat} {v0 v1 : Value} (h : P2 t w b v0 v1) : w.cell? ⟨b, 0, none⟩ = some v0 ∧ w.cell? ⟨b, 1, none⟩ = some v1 := h.cells
set_option maxRecDepth 100000 in
set_option maxHeartbeats 1600000 in
theorem psub_any (x y : Int) (s s' : Bool) (A A' : Option Addr) (n c n' c' : Nat) (w : World) (hx : PI w s A n c x) (hy : PI w s' A' n' c' y) (hn : n ≤ 300000) (hn' : n' ≤ 300000) (hfx : x.natAbs < lim) (hfy : y.natAbs < lim) :
    Calls Try.prog 39 #[.agg #[.bool s, .slice A n c], .agg #[.bool s', .slice A' n' c']] w (RetPE (outV (x - y)) (outC (x - y)) w) := by
  have HX := Lib.hid hx
  have HY := Lib.hid hy
  have HFX := Lib.hid hfx
  have HFY := Lib.hid (show (-y).natAbs < lim by rw [Int.natAbs_neg]; exact hfy)
  clear hx hy hfx hfy
  have HK := Lib.hid (W3_k 33 w (.bool s) (.slice A n c) (.bool s') (.slice A' n' c') (.bool false) (.slice none 0 0)).drew
  have HA := Lib.hid (show P2 33 (W3 33 w (.bool s) (.slice A n c) (.bool s') (.slice A' n' c') (.bool false) (.slice none 0 0)).drew w.heap.size (.bool s) (.slice A n c) from W3_a _ _ _ _ _ _ _ _)
  have HB := Lib.hid (show P2 33 (W3 33 w (.bool s) (.slice A n c) (.bool s') (.slice A' n' c') (.bool false) (.slice none 0 0)).drew (w.heap.size + 1) (.bool s') (.slice A' n' c') from W3_b _ _ _ _ _ _ _ _)
  have HZ := Lib.hid (show P2 33 (W3 33 w (.bool s) (.slice A n c) (.bool s') (.slice A' n' c') (.bool false) (.slice none 0 0)).drew (w.heap.size + 1 + 1) (.bool false) (.slice none 0 0) from W3_z _ _ _ _ _ _ _ _)
  go_enter Try.func39, Try.ntmps39
  go_wp2_with fail
  go_region_held3 (fun w' => w'.cell? ⟨w.heap.size, 0, none⟩ = some (.bool s) ∧ w'.cell? ⟨w.heap.size, 1, none⟩ = some (.slice A n c) ∧ w'.cell? ⟨w.heap.size + 1, 0, none⟩ = some (.bool s') ∧ w'.cell? ⟨w.heap.size + 1, 1, none⟩ = some (.slice A' n' c')) (first | assumption | exact cells4 HA.out HB.out | exact cells4 (hA6.out.far2 (by omega) _ _) (hB6.out.far2 (by omega) _ _) | go_keep)
    (first | (go_at_call 34; refine (pneg_any y s' A' n' c' _ (HY.out.new HK.out) (by omega)).mono ?_; rintro e w5 ⟨neg5, A5, n5, c5, rfl, hr5, hb5⟩; have hA5 := Lib.hid (HA.out.new hb5); have hB5 := Lib.hid (HB.out.new hb5); have hZ5 := Lib.hid (HZ.out.new hb5); have hS5 := cells4 hA5.out hB5.out; have HR5 := Lib.hid hr5; have hn5 : n5 ≤ 300000 := (by have h1 := hr5.2.1; have h2 := HY.out.2.1; rw [Int.natAbs_neg] at h1; omega); clear hr5) | (go_at_call 37; refine (padd_any x (-y) s neg5 A A5 n c n5 c5 _ ((HX.out.new HK.out).new hb5) HR5.out hn hn5 HFX.out HFY.out).mono ?_; rw [← Int.sub_eq_add_neg]; rintro e w6 ⟨neg6, A6, n6, c6, rfl, hr6, hb6⟩; have hA6 := Lib.hid (hA5.out.new hb6); have hB6 := Lib.hid (hB5.out.new hb6); have hZ6 := Lib.hid (hZ5.out.new hb6); have hS6 := cells4 hA6.out hB6.out; have hc60 := hZ6.out.cells.1; have hc61 := hZ6.out.cells.2; have hf60 := hZ6.out.frozen 0; have hf61 := hZ6.out.frozen 1; have HR6 := Lib.hid hr6; clear hr6))
  have HBB := Lib.hid ((HK.out.trans (hb5.mono HK.out.size)).trans (hb6.mono (HK.out.trans (hb5.mono HK.out.size)).size))
  clear hb5 hb6 hS5 hS6
  go_wp2
  exact bodyPost_ret (results_cell1 rfl _ _ _ _ _ _ _ rfl (hZ6.out.all (.bool neg6) (.slice A6 n6 c6)) Try.underlying33 rfl W_size) rfl (RetPE.stored HR6.out hZ6.out rfl rfl HBB.out (by omega) _ _)
end Go.Proofs.Ytpcliampffeknaa
