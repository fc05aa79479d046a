/- Contracts of the program's points: whole, each into ints, onGrid, Whole. Conditions: as each statement has them. -/
import Derived.Test.YtfmccalkfagafaaYPB
namespace Go.Proofs.Ytfmccalkfagafaa
open Go.RowKit
attribute [local go_sem ↓] Go.wp_at_zero Go.wp_at_succ
/-- What each returns into ints. -/
def eiA (V C : Int → Int → Int) (p q u v : Int) : Int := if C p q = 0 ∧ C u v = 0 then V p q else 0
def eiB (V C : Int → Int → Int) (p q u v : Int) : Int := if C p q = 0 ∧ C u v = 0 then V u v else 0
def eiC (C : Int → Int → Int) (p q u v : Int) : Int := if C p q = 0 then C u v else C p q
theorem P2.lo1 {t : TypeId} {w : World} {b : Nat} {v0 v1 : Value} (h : P2 t w b v0 v1) (u : Value) : P2 t (w.setCell ⟨b, 0, none⟩ u) b u v1 := by
  unfold P2 at h ⊢
  simp [World.setCell, Array.getElem?_modify, h]
theorem P2.hi1 {t : TypeId} {w : World} {b : Nat} {v0 v1 : Value} (h : P2 t w b v0 v1) (u : Value) : P2 t (w.setCell ⟨b, 1, none⟩ u) b v0 u := by
  unfold P2 at h ⊢
  simp [World.setCell, Array.getElem?_modify, h]
theorem jx0 {x0 x1 x2 x3 y0 y1 y2 y3 : Value} (wx : World) : (Instr.index 78 (.agg #[x0, x1, x2, x3, y0, y1, y2, y3]) (.int .i64 0)).run Try.prog wx = .ok (.agg #[x0, x1, x2, x3]) wx := by
  first
    | kernel_rfl
    | simp [Instr.index, run_underlying Try.underlying78, asIntOf, go_sem]
theorem jx1 {x0 x1 x2 x3 y0 y1 y2 y3 : Value} (wx : World) : (Instr.index 78 (.agg #[x0, x1, x2, x3, y0, y1, y2, y3]) (.int .i64 1)).run Try.prog wx = .ok (.agg #[y0, y1, y2, y3]) wx := by
  first
    | kernel_rfl
    | simp [Instr.index, run_underlying Try.underlying78, asIntOf, go_sem]
theorem G2_size : (Try.prog.info? 44).map (·.size) = some 2 := by kernel_rfl
/-- The error of a point with coordinates and an error before. -/
def ogC (x y code : Int) : Int := if code = 0 then vdC x y else code
def ogV (x y code z : Int) : Int := if ogC x y code = 0 then z else 0
set_option maxRecDepth 100000 in
set_option maxHeartbeats 3200000 in
theorem ongrid_any (x y code : Int) (w : World) :
    Calls Try.prog 44 #[.agg #[.int .i64 x, .int .i64 y], .int .i64 code] w fun e w' => e = .returned (.tuple #[.agg #[.int .i64 (ogV x y code x), .int .i64 (ogV x y code y)], .int .i64 (ogC x y code)]) ∧ Below w.heap.size w w' := by
  obtain ⟨RX, hRX⟩ : ∃ z, ogV x y code x = z := ⟨_, rfl⟩
  obtain ⟨RY, hRY⟩ : ∃ z, ogV x y code y = z := ⟨_, rfl⟩
  obtain ⟨RC, hRC⟩ : ∃ z, ogC x y code = z := ⟨_, rfl⟩
  have HRES := Lib.hid (And.intro hRX (And.intro hRY hRC))
  rw [hRX, hRY, hRC]
  clear hRX hRY hRC
  obtain ⟨W, hW⟩ : ∃ W, ((w.alloc (.cells #[.int .i64 x, .int .i64 y] 87)).alloc (.cells #[.int .i64 0, .int .i64 0] 44)).alloc (.cells #[.int .i64 x, .int .i64 y] 44) = W := ⟨_, rfl⟩
  have HK := Lib.hid (show Below w.heap.size w W by rw [← hW]; exact (((Below.refl _ w).alloc (Nat.le_refl _) _).alloc (by simp) _).alloc (by simp; omega) _)
  have HZ := Lib.hid (show P2 44 W (w.heap.size + 1) (.int .i64 0) (.int .i64 0) by
    rw [← hW]
    have h0 := P2.lit (w.alloc (.cells #[.int .i64 x, .int .i64 y] 87)) 44 (.int .i64 0) (.int .i64 0)
    rw [World.size_alloc] at h0
    exact h0.alloc _)
  have HQ := Lib.hid (show P2 44 W (w.heap.size + 1 + 1) (.int .i64 x) (.int .i64 y) by
    rw [← hW]
    have h0 := P2.lit ((w.alloc (.cells #[.int .i64 x, .int .i64 y] 87)).alloc (.cells #[.int .i64 0, .int .i64 0] 44)) 44 (.int .i64 x) (.int .i64 y)
    rw [World.size_alloc, World.size_alloc] at h0
    exact h0)
  obtain ⟨V, hV⟩ : ∃ V, (w.alloc (.cells #[.int .i64 x, .int .i64 y] 87)).alloc (.cells #[.int .i64 0, .int .i64 0] 44) = V := ⟨_, rfl⟩
  have HAV := Lib.hid (show P2 87 V w.heap.size (.int .i64 x) (.int .i64 y) by rw [← hV]; exact (P2.lit w _ _ _).alloc _)
  obtain ⟨a0, a1⟩ := HAV.out.cells
  rw [hV] at hW
  obtain ⟨h, hh⟩ : ∃ h, w.heap.size = h := ⟨_, rfl⟩
  have HH := Lib.hid hh
  have hvs : V.heap.size = h + 1 + 1 := by rw [← hV, ← hh]; simp
  rw [hh] at HZ HQ a0 a1
  go_enter Try.func44, Try.ntmps44
  by_cases hc : code = 0
  · subst hc
    obtain ⟨q0, q1⟩ := HQ.out.cells
    go_wp2_with fail
    clear hW hV hh hvs a0 a1
    refine (valid_any x y W).mono ?_
    obtain ⟨k, hk⟩ : ∃ k, vdC x y = k := ⟨_, rfl⟩
    have HKV := Lib.hid hk
    rw [hk]
    clear hk
    rintro e w1 ⟨rfl, hb1⟩
    have HB1 := Lib.hid (bt HK.out hb1)
    have HZ1 := Lib.hid (HZ.out.new hb1)
    have HQ1 := Lib.hid (HQ.out.new hb1)
    clear hb1 q0 q1 HZ HQ HK
    obtain ⟨q0, q1⟩ := HQ1.out.cells
    obtain ⟨z0, z1⟩ := HZ1.out.cells
    have g0 := HZ1.out.frozen 0
    have g1 := HZ1.out.frozen 1
    by_cases hk : k = 0
    · have HE := Lib.hid (show RX = x ∧ RY = y ∧ RC = 0 by
        have hz : ogC x y 0 = 0 := by rw [ogC, if_pos rfl, HKV.out, hk]
        exact ⟨by rw [← HRES.out.1, ogV, if_pos hz], by rw [← HRES.out.2.1, ogV, if_pos hz], by rw [← HRES.out.2.2, hz]⟩)
      subst hk
      go_wp2
      exact bodyPost_ret (results_cell1 rfl _ _ _ _ _ _ _ rfl (HZ1.out.all (.int .i64 x) (.int .i64 y)) Try.underlying44 rfl G2_size) rfl ⟨by rw [HE.out.1, HE.out.2.1, HE.out.2.2]; rfl, below_box HB1.out (by rw [HH.out]; omega) _ _⟩
    · have HE := Lib.hid (show RX = 0 ∧ RY = 0 ∧ RC = k by
        have hz : ogC x y 0 = k := by rw [ogC, if_pos rfl, HKV.out]
        exact ⟨by rw [← HRES.out.1, ogV, if_neg (by rw [hz]; exact hk)], by rw [← HRES.out.2.1, ogV, if_neg (by rw [hz]; exact hk)], by rw [← HRES.out.2.2, hz]⟩)
      have hkb : (k == 0) = false := by simp [hk]
      clear hk
      go_wp2
      exact bodyPost_ret (results_cell1 rfl _ _ _ _ _ _ _ rfl (HZ1.out.all (.int .i64 0) (.int .i64 0)) Try.underlying44 rfl G2_size) rfl ⟨by rw [HE.out.1, HE.out.2.1, HE.out.2.2]; rfl, below_box HB1.out (by rw [HH.out]; omega) _ _⟩
  · have HE := Lib.hid (show RX = 0 ∧ RY = 0 ∧ RC = code by
      have hz : ogC x y code = code := by rw [ogC, if_neg hc]
      exact ⟨by rw [← HRES.out.1, ogV, if_neg (by rw [hz]; exact hc)], by rw [← HRES.out.2.1, ogV, if_neg (by rw [hz]; exact hc)], by rw [← HRES.out.2.2, hz]⟩)
    have hkb : (code == 0) = false := by simp [hc]
    clear hc
    obtain ⟨z0, z1⟩ := HZ.out.cells
    have g0 := HZ.out.frozen 0
    have g1 := HZ.out.frozen 1
    go_wp2
    exact bodyPost_ret (results_cell1 rfl _ _ _ _ _ _ _ rfl (HZ.out.all (.int .i64 0) (.int .i64 0)) Try.underlying44 rfl G2_size) rfl ⟨by rw [HE.out.1, HE.out.2.1, HE.out.2.2]; rfl, below_box HK.out (by rw [HH.out]; omega) _ _⟩
end Go.Proofs.Ytfmccalkfagafaa
