/- What else is needed of the texts below. Conditions: as each statement has them. -/
import Derived.Deep.RegionHeld3
import Derived.Test.YtbhnaffbgggabaaGreatB1
import Derived.Test.YtbhnaffbgggabaaGreatB4
import Derived.Test.YtbhnaffbgggabaaGreatB5

namespace Go.Proofs.YtbhnaffbgggabaaGreat
open Go.RowKit
attribute [local go_sem ↓] Go.wp_at_zero Go.wp_at_succ

attribute [local go_sem] str_get
end Go.Proofs.YtbhnaffbgggabaaGreat

namespace Go.Proofs.YtbhnaffbgggabaaGreat
open Go.RowKit
attribute [local go_sem ↓] Go.wp_at_zero Go.wp_at_succ
attribute [local go_sem] str_get

end Go.Proofs.YtbhnaffbgggabaaGreat

namespace Go.Proofs.YtbhnaffbgggabaaGreat
open Go.RowKit
attribute [local go_sem ↓] Go.wp_at_zero Go.wp_at_succ

end Go.Proofs.YtbhnaffbgggabaaGreat

namespace Go.Proofs.YtbhnaffbgggabaaGreat
open Go.RowKit
attribute [local go_sem ↓] Go.wp_at_zero Go.wp_at_succ

end Go.Proofs.YtbhnaffbgggabaaGreat

namespace Go.Proofs.YtbhnaffbgggabaaGreat
open Go.RowKit
attribute [local go_sem ↓] Go.wp_at_zero Go.wp_at_succ
attribute [local go_sem] str_get

end Go.Proofs.YtbhnaffbgggabaaGreat

namespace Go.Proofs.YtbhnaffbgggabaaGreat
open Go.RowKit
attribute [local go_sem ↓] Go.wp_at_zero Go.wp_at_succ

end Go.Proofs.YtbhnaffbgggabaaGreat

namespace Go.Proofs.YtbhnaffbgggabaaGreat
open Go.RowKit
attribute [local go_sem ↓] Go.wp_at_zero Go.wp_at_succ

end Go.Proofs.YtbhnaffbgggabaaGreat

namespace Go.Proofs.YtbhnaffbgggabaaGreat
open Go.RowKit
attribute [local go_sem ↓] Go.wp_at_zero Go.wp_at_succ
end Go.Proofs.YtbhnaffbgggabaaGreat

namespace Go.Proofs.YtbhnaffbgggabaaGreat
open Go.RowKit
attribute [local go_sem ↓] Go.wp_at_zero Go.wp_at_succ
set_option maxRecDepth 100000 in
set_option maxHeartbeats 1600000 in
theorem sub_any (x y : Int) (s s' : Bool) (A A' : Option Addr) (n c n' c' : Nat) (w : World) (hx : RN w s A n c x) (hy : RN w s' A' n' c' y) (hn : n ≤ 400000) (hn' : n' ≤ 400000) :
    Calls Tryz.prog 41 #[.agg #[.bool s, .slice A n c], .agg #[.bool s', .slice A' n' c']] w (RetN (x - y) w) := by
  have HX := hJ (show RN w s A n c x from hx)
  have HY := hJ (show RN w s' A' n' c' y from hy)
  clear hx hy
  have HK := hJ (W3_k 24 w (.bool s) (.slice A n c) (.bool s') (.slice A' n' c') (.bool false) (.slice none 0 0)).drew
  have HA := hJ (show P2 24 (W3 24 w (.bool s) (.slice A n c) (.bool s') (.slice A' n' c') (.bool false) (.slice none 0 0)).drew w.heap.size (.bool s) (.slice A n c) from W3_a _ _ _ _ _ _ _ _)
  have HB := hJ (show P2 24 (W3 24 w (.bool s) (.slice A n c) (.bool s') (.slice A' n' c') (.bool false) (.slice none 0 0)).drew (w.heap.size + 1) (.bool s') (.slice A' n' c') from W3_b _ _ _ _ _ _ _ _)
  have HZ := hJ (show P2 24 (W3 24 w (.bool s) (.slice A n c) (.bool s') (.slice A' n' c') (.bool false) (.slice none 0 0)).drew (w.heap.size + 1 + 1) (.bool false) (.slice none 0 0) from W3_z _ _ _ _ _ _ _ _)
  go_enter Tryz.func41, Tryz.ntmps41
  go_wp2_with fail
  go_region_held3 (fun w' => w'.cell? ⟨w.heap.size, 0, none⟩ = some (.bool s) ∧ w'.cell? ⟨w.heap.size, 1, none⟩ = some (.slice A n c) ∧ w'.cell? ⟨w.heap.size + 1, 0, none⟩ = some (.bool s') ∧ w'.cell? ⟨w.heap.size + 1, 1, none⟩ = some (.slice A' n' c')) (first | assumption | exact cells4 HA.out HB.out | exact cells4 (hA6.out.far2 (by omega) _ _) (hB6.out.far2 (by omega) _ _) | go_keep)
    (first | (go_at_call 20; refine (neg_any y s' A' n' c' _ (HY.out.new HK.out) (by omega)).mono ?_; rintro e w5 ⟨neg5, A5, n5, c5, rfl, hr5, hb5⟩; have hA5 := hJ (HA.out.new hb5); have hB5 := hJ (HB.out.new hb5); have hZ5 := hJ (HZ.out.new hb5); have hS5 := cells4 hA5.out hB5.out; have HR5 := hJ hr5; have hn5 : n5 ≤ 400000 := (by have h1 := hr5.2.1; have h2 := HY.out.2.1; rw [Int.natAbs_neg] at h1; omega); clear hr5) | (go_at_call 96; refine (add_any x (-y) s neg5 A A5 n c n5 c5 _ ((HX.out.new HK.out).new hb5) HR5.out (by omega) (by omega)).mono ?_; rw [← Int.sub_eq_add_neg]; rintro e w6 ⟨neg6, A6, n6, c6, rfl, hr6, hb6⟩; have hA6 := hJ (hA5.out.new hb6); have hB6 := hJ (hB5.out.new hb6); have hZ6 := hJ (hZ5.out.new hb6); have hS6 := cells4 hA6.out hB6.out; have hc60 := hZ6.out.cells.1; have hc61 := hZ6.out.cells.2; have hf60 := hZ6.out.frozen 0; have hf61 := hZ6.out.frozen 1; have HR6 := hJ hr6; clear hr6))
  have HBB := hJ ((HK.out.trans (hb5.mono HK.out.size)).trans (hb6.mono (HK.out.trans (hb5.mono HK.out.size)).size))
  clear hb5 hb6 hS5 hS6
  go_wp2
  exact bodyPost_ret (results_cell_row rfl _ _ _ _ _ _ _ rfl (hZ6.out.all (.bool neg6) (.slice A6 n6 c6)) Tryz.underlying24 rfl N_size) rfl (RNo.stored HR6.out hZ6.out rfl rfl HBB.out (by omega) _ _)
end Go.Proofs.YtbhnaffbgggabaaGreat

namespace Go.Proofs.YtbhnaffbgggabaaGreat
open Go.RowKit
attribute [local go_sem ↓] Go.wp_at_zero Go.wp_at_succ
end Go.Proofs.YtbhnaffbgggabaaGreat
namespace Go.Proofs.YtbhnaffbgggabaaGreat
open Go.RowKit
section
variable {P : Program} {ops : Array Oper} {Q : Exit → Act → World → Prop} {md : Region.Mode} {S : World → Prop}
end
end Go.Proofs.YtbhnaffbgggabaaGreat
