/- Contracts of the reference's points: GoodBox. Conditions: as each statement has them. -/
import Derived.Test.YtlhccfmbfdaboaaPN
namespace Go.Proofs.Ytlhccfmbfdaboaa
open Go.RowKit
attribute [local go_sem ↓] Go.wp_at_zero Go.wp_at_succ
set_option maxRecDepth 100000 in
set_option maxHeartbeats 3200000 in
theorem goodbox_any (a b x y : Int) (w : World) :
    Calls Try.prog 38 #[.agg #[.int .i64 a, .int .i64 b, .int .i64 x, .int .i64 y]] w fun e w' => e = .returned (.int .i64 (vbC a b x y)) ∧ Below w.heap.size w w' := by
  obtain ⟨W, hW⟩ : ∃ W, w.alloc (.cells #[.int .i64 a, .int .i64 b, .int .i64 x, .int .i64 y] 67) = W := ⟨_, rfl⟩
  have HK := Lib.hid (show Below w.heap.size w W by rw [← hW]; exact (Below.refl _ w).alloc (Nat.le_refl _) _)
  have HA := Lib.hid (show P4 67 W w.heap.size (.int .i64 a) (.int .i64 b) (.int .i64 x) (.int .i64 y) by rw [← hW]; exact P4.lit _ _ _ _ _ _)
  obtain ⟨a0, a1, a2, a3⟩ := HA.out.cells
  go_enter Try.func38, Try.ntmps38
  rcases vd_cases a b with h1 | h1
  · have H1 := Lib.hid h1
    go_wp2_with fail
    refine (good_any a b W).mono ?_
    rw [H1.out]
    rintro e w1 ⟨rfl, hb1⟩
    have HB1 := Lib.hid (bt HK.out hb1)
    have HA1 := Lib.hid (HA.out.new hb1)
    clear hb1 a0 a1 a2 a3
    obtain ⟨a0, a1, a2, a3⟩ := HA1.out.cells
    rcases vd_cases x y with h2 | h2
    · have H2 := Lib.hid h2
      go_wp2_with fail
      refine (good_any x y w1).mono ?_
      rw [H2.out]
      rintro e w2 ⟨rfl, hb2⟩
      have HB2 := Lib.hid (bt HB1.out hb2)
      have HA2 := Lib.hid (HA1.out.new hb2)
      clear hb2 a0 a1 a2 a3
      obtain ⟨a0, a1, a2, a3⟩ := HA2.out.cells
      by_cases h3 : x < a
      · have HV := Lib.hid (show vbC a b x y = 5 from if_neg (fun h => by omega))
        clear h1 h2
        go_wp2
        go_ret
        exact ⟨by rw [HV.out]; rfl, HB2.out⟩
      by_cases h4 : y < b
      · have HV := Lib.hid (show vbC a b x y = 5 from if_neg (fun h => by omega))
        clear h1 h2
        go_wp2
        go_ret
        exact ⟨by rw [HV.out]; rfl, HB2.out⟩
      · have HV := Lib.hid (show vbC a b x y = 0 from if_pos ⟨h1, h2, by omega, by omega⟩)
        clear h1 h2
        go_wp2
        go_ret
        exact ⟨by rw [HV.out]; rfl, HB2.out⟩
    · have H2 := Lib.hid h2
      have HV := Lib.hid (show vbC a b x y = 5 from if_neg (fun h => by rw [h2] at h; exact absurd h.2.1 (by decide)))
      clear h2
      go_wp2_with fail
      refine (good_any x y w1).mono ?_
      rw [H2.out]
      rintro e w2 ⟨rfl, hb2⟩
      have HB2 := Lib.hid (bt HB1.out hb2)
      have HA2 := Lib.hid (HA1.out.new hb2)
      clear hb2 a0 a1 a2 a3
      obtain ⟨a0, a1, a2, a3⟩ := HA2.out.cells
      go_wp2
      go_ret
      exact ⟨by rw [HV.out]; rfl, HB2.out⟩
  · have H1 := Lib.hid h1
    have HV := Lib.hid (show vbC a b x y = 5 from if_neg (fun h => by rw [h1] at h; exact absurd h.1 (by decide)))
    clear h1
    go_wp2_with fail
    refine (good_any a b W).mono ?_
    rw [H1.out]
    rintro e w1 ⟨rfl, hb1⟩
    have HB1 := Lib.hid (bt HK.out hb1)
    have HA1 := Lib.hid (HA.out.new hb1)
    clear hb1 a0 a1 a2 a3
    obtain ⟨a0, a1, a2, a3⟩ := HA1.out.cells
    go_wp2
    go_ret
    exact ⟨by rw [HV.out]; rfl, HB1.out⟩
end Go.Proofs.Ytlhccfmbfdaboaa
