/- Contracts of the reference's points: Of, common, Make, Some, sign, Compare, In, Meets, floor, nearest, Whole, Round. Conditions: as each statement has them. -/
import Derived.Test.YtfmccalkfagafaaYQA
import Derived.Test.YtfmccalkfagafaaYQM
import Derived.Test.YtfmccalkfagafaaYPN
namespace Go.Proofs.Ytfmccalkfagafaa
open Go.RowKit
attribute [local go_sem ↓] Go.wp_at_zero Go.wp_at_succ
/-- Block b is just three cells, none frozen. -/
def P3 (t : TypeId) (w : World) (b : Nat) (v0 v1 v2 : Value) : Prop := w.heap[b]? = some (.cells #[v0, v1, v2] t (0, 0))
section
variable {t : TypeId} {w w' : World} {b : Nat} {v0 v1 v2 : Value}
theorem P3.lt (h : P3 t w b v0 v1 v2) : b < w.heap.size := (Array.getElem?_eq_some_iff.1 h).1
theorem P3.cells (h : P3 t w b v0 v1 v2) : w.cell? ⟨b, 0, none⟩ = some v0 ∧ w.cell? ⟨b, 1, none⟩ = some v1 ∧ w.cell? ⟨b, 2, none⟩ = some v2 := by
  unfold P3 at h
  refine ⟨?_, ?_, ?_⟩ <;> simp [World.cell?, h]
theorem P3.frozen (h : P3 t w b v0 v1 v2) (i : Nat) : w.frozen? ⟨b, i, none⟩ = false := by
  unfold P3 at h
  simp [World.frozen?, h]
theorem P3.new (h : P3 t w b v0 v1 v2) (hb : Below w.heap.size w w') : P3 t w' b v0 v1 v2 := (hb.block b h.lt).trans h
theorem P3.lit (w : World) (t : TypeId) (v0 v1 v2 : Value) : P3 t (w.alloc (.cells #[v0, v1, v2] t)) w.heap.size v0 v1 v2 := heap_alloc_new w _
theorem P3.all (h : P3 t w b v0 v1 v2) (u0 u1 u2 : Value) : P3 t (((w.setCell ⟨b, 0, none⟩ u0).setCell ⟨b, 1, none⟩ u1).setCell ⟨b, 2, none⟩ u2) b u0 u1 u2 := by
  unfold P3 at h ⊢
  simp [World.setCell, Array.getElem?_modify, h]
end
theorem below_box3 {w0 w : World} {B b : Nat} (h : Below B w0 w) (hb : B ≤ b) (u0 u1 u2 : Value) : Below B w0 (((w.setCell ⟨b, 0, none⟩ u0).setCell ⟨b, 1, none⟩ u1).setCell ⟨b, 2, none⟩ u2) :=
  ((h.setCell (p := ⟨b, 0, none⟩) hb u0).setCell (p := ⟨b, 1, none⟩) hb u1).setCell (p := ⟨b, 2, none⟩) hb u2
theorem R_size : (Try.prog.info? 23).map (·.size) = some 3 := by kernel_rfl
set_option maxRecDepth 100000 in
set_option maxHeartbeats 6400000 in
theorem rof_any (x y : Int) (w : World) :
    Calls Try.prog 31 #[.agg #[.int .i64 x, .int .i64 y]] w fun e w' => e = .returned (.agg #[.int .i64 x, .int .i64 y, .int .i64 1]) ∧ Below w.heap.size w w' := by
  obtain ⟨W, hW⟩ : ∃ W, (w.alloc (.cells #[.int .i64 x, .int .i64 y] 44)).alloc (.cells #[.int .i64 0, .int .i64 0, .int .i64 0] 23) = W := ⟨_, rfl⟩
  have HK := Lib.hid (show Below w.heap.size w W by rw [← hW]; exact ((Below.refl _ w).alloc (Nat.le_refl _) _).alloc (by simp) _)
  have HA := Lib.hid (show P2 44 W w.heap.size (.int .i64 x) (.int .i64 y) by rw [← hW]; exact (P2.lit w _ _ _).alloc _)
  have HZ := Lib.hid (show P3 23 W (w.heap.size + 1) (.int .i64 0) (.int .i64 0) (.int .i64 0) by
    rw [← hW]
    have h0 := P3.lit (w.alloc (.cells #[.int .i64 x, .int .i64 y] 44)) 23 (.int .i64 0) (.int .i64 0) (.int .i64 0)
    rw [World.size_alloc] at h0
    exact h0)
  obtain ⟨a0, a1⟩ := HA.out.cells
  obtain ⟨z0, z1, z2⟩ := HZ.out.cells
  have f0 := HZ.out.frozen 0
  have f1 := HZ.out.frozen 1
  have f2 := HZ.out.frozen 2
  go_enter Try.func31, Try.ntmps31
  go_wp2
  exact bodyPost_ret (results_cell_row rfl _ _ _ _ _ _ _ rfl (HZ.out.all (.int .i64 x) (.int .i64 y) (.int .i64 1)) Try.underlying23 rfl R_size) rfl ⟨rfl, below_box3 HK.out (by omega) _ _ _⟩
set_option maxRecDepth 100000 in
set_option maxHeartbeats 6400000 in
theorem rcommon_any (a b : Int) (w : World) (ha : -1099511627776 ≤ a ∧ a ≤ 1099511627776) (hb : -1099511627776 ≤ b ∧ b ≤ 1099511627776) :
    Calls Try.prog 43 #[.int .i64 a, .int .i64 b] w fun e w' => e = .returned (.int .i64 (Nat.gcd a.natAbs b.natAbs : Nat)) ∧ w = w' := by
  obtain ⟨G, hG⟩ : ∃ g, Nat.gcd a.natAbs b.natAbs = g := ⟨_, rfl⟩
  have HG := Lib.hid hG
  rw [hG]
  clear hG
  have hna : IntKind.i64.wrap (-a) = -a := IntWalk.i64_in _ (by omega)
  have hnb : IntKind.i64.wrap (-b) = -b := IntWalk.i64_in _ (by omega)
  obtain ⟨x, hx⟩ : ∃ x : Nat, a.natAbs = x := ⟨_, rfl⟩
  obtain ⟨y, hy⟩ : ∃ y : Nat, b.natAbs = y := ⟨_, rfl⟩
  have HXY := Lib.hid (And.intro hx hy)
  go_enter Try.func43, Try.ntmps43
  by_cases h1 : a < 0 <;> by_cases h2 : b < 0
  all_goals
    go_wp2_with fail
    clear hna hnb
    go_loopw [0, 1] (fun ta tb wr => ∃ p q : Nat, ta = .int .i64 (p : Int) ∧ tb = .int .i64 (q : Int) ∧ Hid (Nat.gcd p q = G) ∧ p ≤ 1099511627776 ∧ q ≤ 1099511627776 ∧ wr = w) (fun _ tb _ => (intOf tb).toNat)
    case atStart => exact ⟨x, y, by congr 1; omega, by congr 1; omega, Lib.hid (by rw [← HG.out, HXY.out.1, HXY.out.2]), by omega, by omega, rfl⟩
    case round =>
      obtain ⟨p, q, rfl, rfl, hg, hp, hq, rfl⟩ := hrel
      by_cases h0 : q = 0
      · subst h0
        have HE := Lib.hid (show p = G by rw [← hg.out, Nat.gcd_zero_right])
        go_wp2
        go_ret
        exact ⟨by rw [HE.out]; rfl, rfl⟩
      · have hq0 : (0 : Int) < (q : Int) := by omega
        have hr : p % q < q := Nat.mod_lt _ (by omega)
        have e1 : (p : Int) % (q : Int) = ((p % q : Nat) : Int) := rfl
        have e2 : IntKind.i64.wrap ((p : Int) % (q : Int)) = ((p % q : Nat) : Int) := by rw [e1]; exact IntWalk.i64_in _ (by omega)
        have e3 : IntKind.i64.wrap ((p : Int).tmod (q : Int)) = ((p % q : Nat) : Int) := by rw [Int.tmod_eq_emod_of_nonneg (by omega)]; exact e2
        go_wp2
        go_roundw
        case rel => exact ⟨q, p % q, by go_num, by first | rfl | go_num, Lib.hid (by rw [← hg.out, Nat.gcd_comm p q, Nat.gcd_rec q p]; exact Nat.gcd_comm _ _), by omega, by omega, by first | rfl | trivial⟩
        case measure => simp [intOf]; omega
/-- What Make returns: x / g, y / g, d / g. -/
def MkR (x y d X Y D : Int) : Prop := ∃ g : Int, 0 < g ∧ x = g * X ∧ y = g * Y ∧ d = g * D ∧ (D ∣ X → D ∣ Y → D = 1)
theorem mkR_of {x y d : Int} (hd : 0 < d) : ∃ g X Y D : Int, 0 < g ∧ ((Nat.gcd (Nat.gcd x.natAbs y.natAbs) d.natAbs : Nat) : Int) = g ∧ x = g * X ∧ y = g * Y ∧ d = g * D ∧ 0 < D ∧ MkR x y d X Y D := by
  obtain ⟨G, hG⟩ : ∃ g, Nat.gcd (Nat.gcd x.natAbs y.natAbs) d.natAbs = g := ⟨_, rfl⟩
  have g0 : 0 < G := by rw [← hG]; exact Nat.gcd_pos_of_pos_right _ (by omega)
  obtain ⟨X, hX⟩ : (G : Int) ∣ x := Int.ofNat_dvd_left.2 (by rw [← hG]; exact Nat.dvd_trans (Nat.gcd_dvd_left _ _) (Nat.gcd_dvd_left _ _))
  obtain ⟨Y, hY⟩ : (G : Int) ∣ y := Int.ofNat_dvd_left.2 (by rw [← hG]; exact Nat.dvd_trans (Nat.gcd_dvd_left _ _) (Nat.gcd_dvd_right _ _))
  obtain ⟨D, hD⟩ : (G : Int) ∣ d := Int.ofNat_dvd_left.2 (by rw [← hG]; exact Nat.gcd_dvd_right _ _)
  have D0 : 0 < D := Int.pos_of_mul_pos_right (show 0 < (G : Int) * D by rw [← hD]; exact hd) (by omega)
  refine ⟨G, X, Y, D, by omega, by rw [hG], hX, hY, hD, D0, G, by omega, hX, hY, hD, fun h1 h2 => ?_⟩
  obtain ⟨u, hu⟩ := h1
  obtain ⟨v, hv⟩ := h2
  have dx : (G * D.natAbs) ∣ x.natAbs := ⟨u.natAbs, by rw [hX, hu, Int.natAbs_mul, Int.natAbs_mul, Int.natAbs_natCast, Nat.mul_assoc]⟩
  have dy : (G * D.natAbs) ∣ y.natAbs := ⟨v.natAbs, by rw [hY, hv, Int.natAbs_mul, Int.natAbs_mul, Int.natAbs_natCast, Nat.mul_assoc]⟩
  have dd : (G * D.natAbs) ∣ d.natAbs := ⟨1, by rw [hD, Int.natAbs_mul, Int.natAbs_natCast, Nat.mul_one]⟩
  have dg : (G * D.natAbs) ∣ G := by
    have := Nat.dvd_gcd (Nat.dvd_gcd dx dy) dd
    rwa [hG] at this
  have hle := Nat.le_of_dvd g0 dg
  have : D.natAbs ≤ 1 := Nat.le_of_mul_le_mul_left (show G * D.natAbs ≤ G * 1 by omega) g0
  omega
theorem quo_in {g X : Int} (hg : 0 < g) (h : -1099511627776 ≤ g * X ∧ g * X ≤ 1099511627776) : IntKind.i64.wrap ((g * X).tdiv g) = X ∧ (-1099511627776 ≤ X ∧ X ≤ 1099511627776) := by
  have e : (g * X).tdiv g = X := by rw [Int.mul_comm]; exact Int.mul_tdiv_cancel _ (by omega)
  have b : X.natAbs ≤ (g * X).natAbs := by rw [Int.natAbs_mul]; exact Nat.le_mul_of_pos_left _ (by omega)
  have b2 : -1099511627776 ≤ X ∧ X ≤ 1099511627776 := by omega
  rw [e]
  exact ⟨IntWalk.i64_in _ (by omega), b2⟩
set_option maxRecDepth 100000 in
set_option maxHeartbeats 6400000 in
theorem make_any (x y d : Int) (w : World) (hd0 : 0 < d) (hx : -1099511627776 ≤ x ∧ x ≤ 1099511627776) (hy : -1099511627776 ≤ y ∧ y ≤ 1099511627776) (hd : -1099511627776 ≤ d ∧ d ≤ 1099511627776) :
    Calls Try.prog 15 #[.int .i64 x, .int .i64 y, .int .i64 d] w fun e w' => ∃ X Y D : Int, e = .returned (.agg #[.int .i64 X, .int .i64 Y, .int .i64 D]) ∧ MkR x y d X Y D ∧ 0 < D ∧ Below w.heap.size w w' := by
  obtain ⟨g, X, Y, D, g0, hg, rfl, rfl, rfl, D0, hR⟩ := mkR_of (x := x) (y := y) (d := d) hd0
  have HR := Lib.hid hR
  have HB := Lib.hid (And.intro hx (And.intro hy hd))
  have HG := Lib.hid hg
  have HGP := Lib.hid (show -1099511627776 ≤ ((Nat.gcd (g * X).natAbs (g * Y).natAbs : Nat) : Int) ∧ ((Nat.gcd (g * X).natAbs (g * Y).natAbs : Nat) : Int) ≤ 1099511627776 by
    refine ⟨by omega, ?_⟩
    by_cases h0 : (g * X).natAbs = 0
    · rw [h0, Nat.gcd_zero_left]; omega
    · have := Nat.le_of_dvd (by omega) (Nat.gcd_dvd_left (g * X).natAbs (g * Y).natAbs); omega)
  obtain ⟨e1, b1⟩ := quo_in g0 hx
  obtain ⟨e2, b2⟩ := quo_in g0 hy
  obtain ⟨e3, b3⟩ := quo_in g0 hd
  obtain ⟨x', hx'⟩ : ∃ z, g * X = z := ⟨_, rfl⟩
  obtain ⟨y', hy'⟩ : ∃ z, g * Y = z := ⟨_, rfl⟩
  obtain ⟨d', hd'⟩ : ∃ z, g * D = z := ⟨_, rfl⟩
  have HE := Lib.hid (And.intro e1 (And.intro e2 e3))
  rw [hx', hy', hd'] at HE
  rw [hx', hy', hd'] at HR
  rw [hx', hy', hd'] at HB
  rw [hx', hy', hd'] at HG
  rw [hx', hy'] at HGP
  rw [hx', hy', hd']
  have hd9 : 0 < d' := by rw [← hd']; exact hd0
  have hg9 : g ≠ 0 := by omega
  have HL := Lib.hid (show -1099511627776 ≤ D ∧ D ≤ 1099511627776 from b3)
  clear hR hx hy hd hd0 e1 e2 e3 b1 b2 b3 hx' hy' hd' hg
  obtain ⟨W, hW⟩ : ∃ W, w.alloc (.cells #[.int .i64 0, .int .i64 0, .int .i64 0] 23) = W := ⟨_, rfl⟩
  have HK := Lib.hid (show Below w.heap.size w W by rw [← hW]; exact (Below.refl _ w).alloc (Nat.le_refl _) _)
  have HZ := Lib.hid (show P3 23 W w.heap.size (.int .i64 0) (.int .i64 0) (.int .i64 0) by rw [← hW]; exact P3.lit _ _ _ _ _)
  obtain ⟨h, hh⟩ : ∃ h, w.heap.size = h := ⟨_, rfl⟩
  rw [hh] at HZ
  have HH := Lib.hid hh
  go_enter Try.func15, Try.ntmps15
  go_wp2_with fail
  clear hh
  refine (rcommon_any x' y' W HB.out.1 HB.out.2.1).mono ?_
  rintro e w1 ⟨rfl, rfl⟩
  go_wp2_with fail
  refine (rcommon_any _ d' W HGP.out HB.out.2.2).mono ?_
  rw [Int.natAbs_natCast, HG.out]
  rintro e w1 ⟨rfl, rfl⟩
  have q1 := HE.out.1
  have q2 := HE.out.2.1
  have q3 := HE.out.2.2
  go_upto_region 6 with fail
  clear hW
  have HXX := Lib.hid HK.out
  obtain ⟨v0, hv0⟩ : ∃ z, World.drew W = z := ⟨_, rfl⟩
  have HD0 := Lib.hid (show Below W.heap.size W v0 by rw [← hv0]; exact (Below.refl _ _).drew)
  have HX_0 := Lib.hid (bt HXX.out HD0.out)
  have HP_r_0 := Lib.hid (HZ.out.new HD0.out)
  refine wp_region_held_drew (S := (fun w' : World => Below w.heap.size w w')) (by kernel_rfl) ?_ (fun hHeld => ?_)
  · rw [hv0]
    exact HX_0.out
  rw [hv0] at hHeld ⊢
  clear hv0 HD0
  refine wpAnyH_take (i := 0) (v := ?_) rfl (by kernel_rfl) (by kernel_rfl) (by kernel_rfl) (fun _ _ _ h => h) (Or.inl ⟨by kernel_rfl, ?_⟩) (by assumption) ?_
  rotate_left
  · intro w hSw
    (try dsimp only at hSw)
    go_simp
    all_goals (with_reducible rfl)
  try simp only [Act.put, List.getElem_toArray, List.getElem_cons_zero, List.setIfInBounds_toArray, List.set_cons_zero, List.set_cons_succ]
  refine wpAnyH_take (i := 1) (v := ?_) rfl (by kernel_rfl) (by kernel_rfl) (by kernel_rfl) (fun _ _ _ h => h) (Or.inl ⟨by kernel_rfl, ?_⟩) (by assumption) ?_
  rotate_left
  · intro w hSw
    (try dsimp only at hSw)
    go_simp
    all_goals (with_reducible rfl)
  try simp only [Act.put, List.getElem_toArray, List.getElem_cons_zero, List.getElem_cons_succ, List.setIfInBounds_toArray, List.set_cons_zero, List.set_cons_succ]
  refine wpAnyH_take (i := 2) (v := ?_) rfl (by kernel_rfl) (by kernel_rfl) (by kernel_rfl) (fun _ _ _ h => h) (Or.inl ⟨by kernel_rfl, ?_⟩) (by assumption) ?_
  rotate_left
  · intro w hSw
    (try dsimp only at hSw)
    go_simp
    all_goals (with_reducible rfl)
  try simp only [Act.put, List.getElem_toArray, List.getElem_cons_zero, List.getElem_cons_succ, List.setIfInBounds_toArray, List.set_cons_zero, List.set_cons_succ]
  refine wpAnyH_take (i := 3) (v := ?_) rfl (by kernel_rfl) (by kernel_rfl) (by kernel_rfl) (fun _ _ _ h => h) (Or.inl ⟨by kernel_rfl, ?_⟩) (by assumption) ?_
  rotate_left
  · intro w hSw
    (try dsimp only at hSw)
    go_simp
    all_goals (with_reducible rfl)
  try simp only [Act.put, List.getElem_toArray, List.getElem_cons_zero, List.getElem_cons_succ, List.setIfInBounds_toArray, List.set_cons_zero, List.set_cons_succ]
  refine wpAnyH_take (i := 4) (v := ?_) rfl (by kernel_rfl) (by kernel_rfl) (by kernel_rfl) (fun _ _ _ h => h) (Or.inl ⟨by kernel_rfl, ?_⟩) (by assumption) ?_
  rotate_left
  · intro w hSw
    (try dsimp only at hSw)
    go_simp
    all_goals (with_reducible rfl)
  try simp only [Act.put, List.getElem_toArray, List.getElem_cons_zero, List.getElem_cons_succ, List.setIfInBounds_toArray, List.set_cons_zero, List.set_cons_succ]
  refine wpAnyH_take (i := 5) (v := ?_) rfl (by kernel_rfl) (by kernel_rfl) (by kernel_rfl) (fun _ _ _ h => h) (Or.inl ⟨by kernel_rfl, ?_⟩) (by assumption) ?_
  rotate_left
  · intro w hSw
    (try dsimp only at hSw)
    go_simp
    all_goals (with_reducible rfl)
  try simp only [Act.put, List.getElem_toArray, List.getElem_cons_zero, List.getElem_cons_succ, List.setIfInBounds_toArray, List.set_cons_zero, List.set_cons_succ]
  refine wpAnyH_take (i := 6) (v := ?_) rfl (by kernel_rfl) (by kernel_rfl) (by kernel_rfl) (fun _ _ _ h => h) (Or.inl ⟨by kernel_rfl, ?_⟩) (by assumption) ?_
  rotate_left
  · intro w hSw
    (try dsimp only at hSw)
    go_simp
    all_goals (with_reducible rfl)
  try simp only [Act.put, List.getElem_toArray, List.getElem_cons_zero, List.getElem_cons_succ, List.setIfInBounds_toArray, List.set_cons_zero, List.set_cons_succ]
  refine wpAnyH_take (i := 7) (v := ?_) rfl (by kernel_rfl) (by kernel_rfl) (by kernel_rfl) (fun _ _ _ h => h) (Or.inl ⟨by kernel_rfl, ?_⟩) (by assumption) ?_
  rotate_left
  · intro w hSw
    (try dsimp only at hSw)
    go_simp
    all_goals (with_reducible rfl)
  try simp only [Act.put, List.getElem_toArray, List.getElem_cons_zero, List.getElem_cons_succ, List.setIfInBounds_toArray, List.set_cons_zero, List.set_cons_succ]
  refine wpAnyH_take (i := 8) (v := ?_) rfl (by kernel_rfl) (by kernel_rfl) (by kernel_rfl) (fun _ _ _ h => h) (Or.inl ⟨by kernel_rfl, ?_⟩) (by assumption) ?_
  rotate_left
  · intro w hSw
    (try dsimp only at hSw)
    go_simp
    all_goals (with_reducible rfl)
  try simp only [Act.put, List.getElem_toArray, List.getElem_cons_zero, List.getElem_cons_succ, List.setIfInBounds_toArray, List.set_cons_zero, List.set_cons_succ]
  refine wpAnyH_take (i := 9) (v := ?_) rfl (by kernel_rfl) (by kernel_rfl) (by kernel_rfl) (fun _ _ _ h => h) (Or.inl ⟨by kernel_rfl, ?_⟩) (by assumption) ?_
  rotate_left
  · intro w hSw
    (try dsimp only at hSw)
    go_simp
    all_goals (with_reducible rfl)
  try simp only [Act.put, List.getElem_toArray, List.getElem_cons_zero, List.getElem_cons_succ, List.setIfInBounds_toArray, List.set_cons_zero, List.set_cons_succ]
  refine wpAnyH_ready (rs := [10]) (by kernel_rfl) (by simp) ?_
  refine AllReadyH.cons rfl (fun K hK => ?_) AllReadyH.nil
  obtain ⟨z0, z1, z2⟩ := HP_r_0.out.cells
  have y0 := HP_r_0.out.frozen 0
  have y1 := HP_r_0.out.frozen 1
  have y2 := HP_r_0.out.frozen 2
  have z9 := HP_r_0.out.lt
  go_simp
  obtain ⟨v1, hV⟩ : ∃ z, World.setCell (World.setCell (World.setCell v0 ⟨h, 0, none⟩ (.int .i64 X)) ⟨h, 1, none⟩ (.int .i64 Y)) ⟨h, 2, none⟩ (.int .i64 D) = z := ⟨_, rfl⟩
  rw [hV]
  have HX_1 := Lib.hid (show Below w.heap.size w v1 by rw [← hV]; exact below_box3 HX_0.out ((show w.heap.size ≤ h by rw [HH.out]; exact Nat.le_refl _)) _ _ _)
  have HP_r_1 := Lib.hid (show P3 23 v1 h (.int .i64 X) (.int .i64 Y) (.int .i64 D) by rw [← hV]; exact HP_r_0.out.all (.int .i64 X) (.int .i64 Y) (.int .i64 D))
  refine hK.out _ _ (HX_1.out) (fun hHeld2 => ?_)
  clear hHeld
  have hHeld := hHeld2
  clear hHeld2 hK K hV z9 z0 z1 z2 y0 y1 y2 HX_0 HP_r_0
  try simp only [Act.put, List.getElem_toArray, List.getElem_cons_zero, List.getElem_cons_succ, List.setIfInBounds_toArray, List.set_cons_zero, List.set_cons_succ]
  refine wpAnyH_done (by kernel_rfl) ?_ _
  clear hHeld
  have HF := Lib.hid HP_r_1.out
  have HBF := Lib.hid HX_1.out
  go_wp2_with fail
  exact bodyPost_ret (results_cell_row rfl _ _ _ _ _ _ _ rfl HF.out Try.underlying23 rfl R_size) rfl ⟨X, Y, D, rfl, HR.out, D0, HBF.out⟩
end Go.Proofs.Ytfmccalkfagafaa
