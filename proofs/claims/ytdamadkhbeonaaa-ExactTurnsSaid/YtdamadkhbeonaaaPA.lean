/- Contracts of the program's points: integers, notGreater over ints, Valid. Conditions: as each statement has them. -/
import Derived.Test.YtdamadkhbeonaaaFE
namespace Go.Proofs.Ytdamadkhbeonaaa
open Go.RowKit
attribute [local go_sem ↓] Go.wp_at_zero Go.wp_at_succ
theorem A2_size : (Try.prog.info? 69).map (·.size) = some 2 := by kernel_rfl
set_option maxRecDepth 100000 in
set_option maxHeartbeats 1600000 in
theorem integers_any (x y : Int) (w : World) :
  Calls Try.prog 53 #[.agg #[.int .i64 x, .int .i64 y]] w fun e w' => e = .returned (.agg #[.int .i64 x, .int .i64 y]) ∧ Below w.heap.size w w' := by
 obtain ⟨W, hW⟩ : ∃ W, (w.alloc (.cells #[.int .i64 x, .int .i64 y] 25)).alloc (.cells #[.int .i64 0, .int .i64 0] 69) = W := ⟨_, rfl⟩
 have HK := hJ (show Below w.heap.size w W by rw [← hW]; exact ((Below.refl _ w).alloc (Nat.le_refl _) _).alloc (by simp) _)
 have HA := hJ (show P2 25 W w.heap.size (.int .i64 x) (.int .i64 y) by rw [← hW]; exact (P2.lit w _ _ _).alloc _)
 have HZ := hJ (show P2 69 W (w.heap.size + 1) (.int .i64 0) (.int .i64 0) by
  rw [← hW]
  have h0 := P2.lit (w.alloc (.cells #[.int .i64 x, .int .i64 y] 25)) 69 (.int .i64 0) (.int .i64 0)
  rw [World.size_alloc] at h0
  exact h0)
 obtain ⟨a0, a1⟩ := HA.out.cells
 obtain ⟨z0, z1⟩ := HZ.out.cells
 have f0 := HZ.out.frozen 0
 have f1 := HZ.out.frozen 1
 go_enter Try.func53, Try.ntmps53
 go_wp2
 exact bodyPost_ret (results_cell_row rfl _ _ _ _ _ _ _ rfl (HZ.out.all (.int .i64 x) (.int .i64 y)) Try.underlying69 rfl A2_size) rfl ⟨rfl, below_box HK.out (by omega) _ _⟩
set_option maxRecDepth 100000 in
set_option maxHeartbeats 3200000 in
theorem notgr_any (a b x y : Int) (w : World) :
  Calls Try.prog 52 #[.agg #[.int .i64 a, .int .i64 b], .agg #[.int .i64 x, .int .i64 y], .func (.func 49) #[] #[]] w fun e w' => e = .returned (.bool (decide (a ≤ x ∧ b ≤ y))) ∧ Below w.heap.size w w' := by
 obtain ⟨W, hW⟩ : ∃ W, (w.alloc (.cells #[.int .i64 a, .int .i64 b] 69)).alloc (.cells #[.int .i64 x, .int .i64 y] 69) = W := ⟨_, rfl⟩
 have HK := hJ (show Below w.heap.size w W by rw [← hW]; exact ((Below.refl _ w).alloc (Nat.le_refl _) _).alloc (by simp) _)
 have HA := hJ (show P2 69 W w.heap.size (.int .i64 a) (.int .i64 b) by rw [← hW]; exact (P2.lit w _ _ _).alloc _)
 have HB := hJ (show P2 69 W (w.heap.size + 1) (.int .i64 x) (.int .i64 y) by
  rw [← hW]
  have h0 := P2.lit (w.alloc (.cells #[.int .i64 a, .int .i64 b] 69)) 69 (.int .i64 x) (.int .i64 y)
  rw [World.size_alloc] at h0
  exact h0)
 obtain ⟨h, hh⟩ : ∃ h, w.heap.size = h := ⟨_, rfl⟩
 rw [hh] at HA HB
 go_enter Try.func52, Try.ntmps52
 go_wp2_with fail
 clear hW hh
 go_loopw [8] (fun v wr => ∃ i : Nat, i ≤ 2 ∧ v = .int .i64 (i : Int) ∧ P2 69 wr h (.int .i64 a) (.int .i64 b) ∧ P2 69 wr (h + 1) (.int .i64 x) (.int .i64 y) ∧ Hid ((0 < i → a ≤ x) ∧ (1 < i → b ≤ y)) ∧ Below w.heap.size w wr) (fun v _ => 2 - (intOf v).toNat)
 case atStart => exact ⟨0, by omega, rfl, HA.out, HB.out, hJ ⟨fun h => by omega, fun h => by omega⟩, HK.out⟩
 case round =>
  clear HA HB HK
  obtain ⟨i, hi, rfl, ha, hb, hle, hbel⟩ := hrel
  have HA := hJ ha
  have HB := hJ hb
  have HBB := hJ hbel
  clear ha hb hbel
  have hi3 : i = 0 ∨ i = 1 ∨ i = 2 := by omega
  rcases hi3 with rfl | rfl | rfl
  ·skip
   obtain ⟨z0, z1⟩ := HA.out.cells
   obtain ⟨y0, y1⟩ := HB.out.cells
   have HS : Hid (∀ w', Below wr.heap.size wr w' → w'.cell? ⟨h, 0, none⟩ = some (.int .i64 a) ∧ w'.cell? ⟨(h + 1), 0, none⟩ = some (.int .i64 x) ∧ Below wr.heap.size wr w') := hJ (fun w' hb => ⟨(HA.out.new hb).cells.1, (HB.out.new hb).cells.1, hb⟩)
   have HXX := hJ (Below.refl wr.heap.size wr)
   clear z0 z1 y0 y1
   rcases cmpI_cases a x with ⟨hc, hv⟩ | ⟨hc, hv⟩ | ⟨hc, hv⟩
   ·have HO := hJ hc
    clear hc hv
    go_wp2_with fail
    obtain ⟨v0, hv0⟩ := nmz (World.drew wr)
    have HD0 := hJ (show Below wr.heap.size wr v0 by rw [← hv0]; exact (Below.refl _ _).drew)
    have HX_0 := hJ (bt HXX.out HD0.out)
    refine wp_region_held_drew (S := (fun w' : World => w'.cell? ⟨h, 0, none⟩ = some (.int .i64 a) ∧ w'.cell? ⟨(h + 1), 0, none⟩ = some (.int .i64 x) ∧ Below wr.heap.size wr w')) (by kernel_rfl) ?_ (fun hHeld => ?_)
    ·rw [hv0]
     exact HS.out _ HX_0.out
    rw [hv0] at hHeld ⊢
    clear hv0 HD0
    refine tq 0 ?_
    try simp only [PT]
    refine tq 1 ?_
    try simp only [PT]
    refine tq 2 ?_
    try simp only [PT]
    refine tq 3 ?_
    try simp only [PT]
    refine tq 4 ?_
    try simp only [PT]
    refine tq 5 ?_
    try simp only [PT]
    refine tq 6 ?_
    try simp only [PT]
    refine wpAnyH_ready (rs := [7]) (by kernel_rfl) (by simp) ?_
    refine .cons rfl (fun K hK => ?_) .nil
    go_simp
    go_at_call 49
    refine (cmpi_any a x (-1) v0 (by have := HO.out; omega)).mono ?_
    rintro e v1 ⟨rfl, hw⟩
    have hk : Below v0.heap.size v0 v1 := by rw [← hw]; exact Below.refl _ _
    clear hw
    have HB_1 := hJ hk
    go_wp2_with fail
    have HX_1 := hJ (bt HX_0.out HB_1.out)
    clear hHeld
    refine hK.out _ _ (HS.out _ HX_1.out) (fun hHeld => ?_)
    clear hK K hk HB_1 HX_0
    try simp only [PT]
    refine tq 8 ?_
    try simp only [PT]
    refine wpAnyH_done (by kernel_rfl) ?_ _
    clear hHeld
    have HL := hJ HX_1.out
    go_wp2
    go_roundw
    case rel => exact ⟨1, by omega, by go_num, HA.out.new HL.out, HB.out.new HL.out, hJ ⟨fun _ => by have := HO.out; omega, fun _ => by omega⟩, bt HBB.out HL.out⟩
    case measure => simp [intOf]
   ·have HO := hJ hc
    clear hc hv
    go_wp2_with fail
    obtain ⟨v0, hv0⟩ := nmz (World.drew wr)
    have HD0 := hJ (show Below wr.heap.size wr v0 by rw [← hv0]; exact (Below.refl _ _).drew)
    have HX_0 := hJ (bt HXX.out HD0.out)
    refine wp_region_held_drew (S := (fun w' : World => w'.cell? ⟨h, 0, none⟩ = some (.int .i64 a) ∧ w'.cell? ⟨(h + 1), 0, none⟩ = some (.int .i64 x) ∧ Below wr.heap.size wr w')) (by kernel_rfl) ?_ (fun hHeld => ?_)
    ·rw [hv0]
     exact HS.out _ HX_0.out
    rw [hv0] at hHeld ⊢
    clear hv0 HD0
    refine tq 0 ?_
    try simp only [PT]
    refine tq 1 ?_
    try simp only [PT]
    refine tq 2 ?_
    try simp only [PT]
    refine tq 3 ?_
    try simp only [PT]
    refine tq 4 ?_
    try simp only [PT]
    refine tq 5 ?_
    try simp only [PT]
    refine tq 6 ?_
    try simp only [PT]
    refine wpAnyH_ready (rs := [7]) (by kernel_rfl) (by simp) ?_
    refine .cons rfl (fun K hK => ?_) .nil
    go_simp
    go_at_call 49
    refine (cmpi_any a x (0) v0 (by have := HO.out; omega)).mono ?_
    rintro e v1 ⟨rfl, hw⟩
    have hk : Below v0.heap.size v0 v1 := by rw [← hw]; exact Below.refl _ _
    clear hw
    have HB_1 := hJ hk
    go_wp2_with fail
    have HX_1 := hJ (bt HX_0.out HB_1.out)
    clear hHeld
    refine hK.out _ _ (HS.out _ HX_1.out) (fun hHeld => ?_)
    clear hK K hk HB_1 HX_0
    try simp only [PT]
    refine tq 8 ?_
    try simp only [PT]
    refine wpAnyH_done (by kernel_rfl) ?_ _
    clear hHeld
    have HL := hJ HX_1.out
    go_wp2
    go_roundw
    case rel => exact ⟨1, by omega, by go_num, HA.out.new HL.out, HB.out.new HL.out, hJ ⟨fun _ => by have := HO.out; omega, fun _ => by omega⟩, bt HBB.out HL.out⟩
    case measure => simp [intOf]
   ·have HO := hJ hc
    clear hc hv
    go_wp2_with fail
    obtain ⟨v0, hv0⟩ := nmz (World.drew wr)
    have HD0 := hJ (show Below wr.heap.size wr v0 by rw [← hv0]; exact (Below.refl _ _).drew)
    have HX_0 := hJ (bt HXX.out HD0.out)
    refine wp_region_held_drew (S := (fun w' : World => w'.cell? ⟨h, 0, none⟩ = some (.int .i64 a) ∧ w'.cell? ⟨(h + 1), 0, none⟩ = some (.int .i64 x) ∧ Below wr.heap.size wr w')) (by kernel_rfl) ?_ (fun hHeld => ?_)
    ·rw [hv0]
     exact HS.out _ HX_0.out
    rw [hv0] at hHeld ⊢
    clear hv0 HD0
    refine tq 0 ?_
    try simp only [PT]
    refine tq 1 ?_
    try simp only [PT]
    refine tq 2 ?_
    try simp only [PT]
    refine tq 3 ?_
    try simp only [PT]
    refine tq 4 ?_
    try simp only [PT]
    refine tq 5 ?_
    try simp only [PT]
    refine tq 6 ?_
    try simp only [PT]
    refine wpAnyH_ready (rs := [7]) (by kernel_rfl) (by simp) ?_
    refine .cons rfl (fun K hK => ?_) .nil
    go_simp
    go_at_call 49
    refine (cmpi_any a x (1) v0 (by have := HO.out; omega)).mono ?_
    rintro e v1 ⟨rfl, hw⟩
    have hk : Below v0.heap.size v0 v1 := by rw [← hw]; exact Below.refl _ _
    clear hw
    have HB_1 := hJ hk
    go_wp2_with fail
    have HX_1 := hJ (bt HX_0.out HB_1.out)
    clear hHeld
    refine hK.out _ _ (HS.out _ HX_1.out) (fun hHeld => ?_)
    clear hK K hk HB_1 HX_0
    try simp only [PT]
    refine tq 8 ?_
    try simp only [PT]
    refine wpAnyH_done (by kernel_rfl) ?_ _
    clear hHeld
    have HL := hJ (bt HBB.out HX_1.out)
    go_wp2
    go_ret
    exact ⟨by rw [decide_eq_false (by have := HO.out; omega)]; rfl, HL.out⟩
  ·skip
   obtain ⟨z0, z1⟩ := HA.out.cells
   obtain ⟨y0, y1⟩ := HB.out.cells
   have HS : Hid (∀ w', Below wr.heap.size wr w' → w'.cell? ⟨h, 1, none⟩ = some (.int .i64 b) ∧ w'.cell? ⟨(h + 1), 1, none⟩ = some (.int .i64 y) ∧ Below wr.heap.size wr w') := hJ (fun w' hb => ⟨(HA.out.new hb).cells.2, (HB.out.new hb).cells.2, hb⟩)
   have HXX := hJ (Below.refl wr.heap.size wr)
   clear z0 z1 y0 y1
   rcases cmpI_cases b y with ⟨hc, hv⟩ | ⟨hc, hv⟩ | ⟨hc, hv⟩
   ·have HO := hJ hc
    clear hc hv
    go_wp2_with fail
    obtain ⟨v0, hv0⟩ := nmz (World.drew wr)
    have HD0 := hJ (show Below wr.heap.size wr v0 by rw [← hv0]; exact (Below.refl _ _).drew)
    have HX_0 := hJ (bt HXX.out HD0.out)
    refine wp_region_held_drew (S := (fun w' : World => w'.cell? ⟨h, 1, none⟩ = some (.int .i64 b) ∧ w'.cell? ⟨(h + 1), 1, none⟩ = some (.int .i64 y) ∧ Below wr.heap.size wr w')) (by kernel_rfl) ?_ (fun hHeld => ?_)
    ·rw [hv0]
     exact HS.out _ HX_0.out
    rw [hv0] at hHeld ⊢
    clear hv0 HD0
    refine tq 0 ?_
    try simp only [PT]
    refine tq 1 ?_
    try simp only [PT]
    refine tq 2 ?_
    try simp only [PT]
    refine tq 3 ?_
    try simp only [PT]
    refine tq 4 ?_
    try simp only [PT]
    refine tq 5 ?_
    try simp only [PT]
    refine tq 6 ?_
    try simp only [PT]
    refine wpAnyH_ready (rs := [7]) (by kernel_rfl) (by simp) ?_
    refine .cons rfl (fun K hK => ?_) .nil
    go_simp
    go_at_call 49
    refine (cmpi_any b y (-1) v0 (by have := HO.out; omega)).mono ?_
    rintro e v1 ⟨rfl, hw⟩
    have hk : Below v0.heap.size v0 v1 := by rw [← hw]; exact Below.refl _ _
    clear hw
    have HB_1 := hJ hk
    go_wp2_with fail
    have HX_1 := hJ (bt HX_0.out HB_1.out)
    clear hHeld
    refine hK.out _ _ (HS.out _ HX_1.out) (fun hHeld => ?_)
    clear hK K hk HB_1 HX_0
    try simp only [PT]
    refine tq 8 ?_
    try simp only [PT]
    refine wpAnyH_done (by kernel_rfl) ?_ _
    clear hHeld
    have HL := hJ HX_1.out
    go_wp2
    go_roundw
    case rel => exact ⟨2, by omega, by go_num, HA.out.new HL.out, HB.out.new HL.out, hJ ⟨fun _ => hle.out.1 (by omega), fun _ => by have := HO.out; omega⟩, bt HBB.out HL.out⟩
    case measure => simp [intOf]
   ·have HO := hJ hc
    clear hc hv
    go_wp2_with fail
    obtain ⟨v0, hv0⟩ := nmz (World.drew wr)
    have HD0 := hJ (show Below wr.heap.size wr v0 by rw [← hv0]; exact (Below.refl _ _).drew)
    have HX_0 := hJ (bt HXX.out HD0.out)
    refine wp_region_held_drew (S := (fun w' : World => w'.cell? ⟨h, 1, none⟩ = some (.int .i64 b) ∧ w'.cell? ⟨(h + 1), 1, none⟩ = some (.int .i64 y) ∧ Below wr.heap.size wr w')) (by kernel_rfl) ?_ (fun hHeld => ?_)
    ·rw [hv0]
     exact HS.out _ HX_0.out
    rw [hv0] at hHeld ⊢
    clear hv0 HD0
    refine tq 0 ?_
    try simp only [PT]
    refine tq 1 ?_
    try simp only [PT]
    refine tq 2 ?_
    try simp only [PT]
    refine tq 3 ?_
    try simp only [PT]
    refine tq 4 ?_
    try simp only [PT]
    refine tq 5 ?_
    try simp only [PT]
    refine tq 6 ?_
    try simp only [PT]
    refine wpAnyH_ready (rs := [7]) (by kernel_rfl) (by simp) ?_
    refine .cons rfl (fun K hK => ?_) .nil
    go_simp
    go_at_call 49
    refine (cmpi_any b y (0) v0 (by have := HO.out; omega)).mono ?_
    rintro e v1 ⟨rfl, hw⟩
    have hk : Below v0.heap.size v0 v1 := by rw [← hw]; exact Below.refl _ _
    clear hw
    have HB_1 := hJ hk
    go_wp2_with fail
    have HX_1 := hJ (bt HX_0.out HB_1.out)
    clear hHeld
    refine hK.out _ _ (HS.out _ HX_1.out) (fun hHeld => ?_)
    clear hK K hk HB_1 HX_0
    try simp only [PT]
    refine tq 8 ?_
    try simp only [PT]
    refine wpAnyH_done (by kernel_rfl) ?_ _
    clear hHeld
    have HL := hJ HX_1.out
    go_wp2
    go_roundw
    case rel => exact ⟨2, by omega, by go_num, HA.out.new HL.out, HB.out.new HL.out, hJ ⟨fun _ => hle.out.1 (by omega), fun _ => by have := HO.out; omega⟩, bt HBB.out HL.out⟩
    case measure => simp [intOf]
   ·have HO := hJ hc
    clear hc hv
    go_wp2_with fail
    obtain ⟨v0, hv0⟩ := nmz (World.drew wr)
    have HD0 := hJ (show Below wr.heap.size wr v0 by rw [← hv0]; exact (Below.refl _ _).drew)
    have HX_0 := hJ (bt HXX.out HD0.out)
    refine wp_region_held_drew (S := (fun w' : World => w'.cell? ⟨h, 1, none⟩ = some (.int .i64 b) ∧ w'.cell? ⟨(h + 1), 1, none⟩ = some (.int .i64 y) ∧ Below wr.heap.size wr w')) (by kernel_rfl) ?_ (fun hHeld => ?_)
    ·rw [hv0]
     exact HS.out _ HX_0.out
    rw [hv0] at hHeld ⊢
    clear hv0 HD0
    refine tq 0 ?_
    try simp only [PT]
    refine tq 1 ?_
    try simp only [PT]
    refine tq 2 ?_
    try simp only [PT]
    refine tq 3 ?_
    try simp only [PT]
    refine tq 4 ?_
    try simp only [PT]
    refine tq 5 ?_
    try simp only [PT]
    refine tq 6 ?_
    try simp only [PT]
    refine wpAnyH_ready (rs := [7]) (by kernel_rfl) (by simp) ?_
    refine .cons rfl (fun K hK => ?_) .nil
    go_simp
    go_at_call 49
    refine (cmpi_any b y (1) v0 (by have := HO.out; omega)).mono ?_
    rintro e v1 ⟨rfl, hw⟩
    have hk : Below v0.heap.size v0 v1 := by rw [← hw]; exact Below.refl _ _
    clear hw
    have HB_1 := hJ hk
    go_wp2_with fail
    have HX_1 := hJ (bt HX_0.out HB_1.out)
    clear hHeld
    refine hK.out _ _ (HS.out _ HX_1.out) (fun hHeld => ?_)
    clear hK K hk HB_1 HX_0
    try simp only [PT]
    refine tq 8 ?_
    try simp only [PT]
    refine wpAnyH_done (by kernel_rfl) ?_ _
    clear hHeld
    have HL := hJ (bt HBB.out HX_1.out)
    go_wp2
    go_ret
    exact ⟨by rw [decide_eq_false (by have := HO.out; omega)]; rfl, HL.out⟩
  ·go_wp2
   go_ret
   exact ⟨by rw [decide_eq_true ⟨hle.out.1 (by omega), hle.out.2 (by omega)⟩]; rfl, HBB.out⟩
end Go.Proofs.Ytdamadkhbeonaaa
