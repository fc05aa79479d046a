/- Contracts: the law's example lives; Pick. Conditions: as each statement has them. -/
import Derived.Test.YtdamadkhbeonaaaEB
import Derived.Test.YtdamadkhbeonaaaEH
namespace Go.Proofs.Ytdamadkhbeonaaa
open Go.RowKit
attribute [local go_sem ↓] Go.wp_at_zero Go.wp_at_succ
set_option linter.unusedVariables false
set_option linter.unusedSimpArgs false
theorem cm_less {a b : Int} (h : a < b) : cmpI a b = -1 := by unfold cmpI; rw [if_pos h]
theorem cm_same {a b : Int} (h : a = b) : cmpI a b = 0 := by unfold cmpI; rw [if_neg (by omega), if_neg (by omega)]
theorem cm_more {a b : Int} (h : b < a) : cmpI a b = 1 := by unfold cmpI; rw [if_neg (by omega), if_pos h]
set_option maxRecDepth 100000 in
theorem pickz_any (sv : Value) (xs : List Int) (i m : Nat) (w : World) (h : Got w sv xs) (hi : i ≤ 1000) (h1 : 1 ≤ (m : Int)) (hm : (m : Int) ≤ 1099511627776) :
  Calls Try.prog 6 #[sv, .int .i64 i, .int .i64 m] w fun e w' => (∃ k : Int, e = .returned (.int .i64 k) ∧ (0 ≤ k ∧ k < m) ∧ (Lit.int .i64 k).wf = true) ∧ w = w' := by
 obtain ⟨hs, hl, hw⟩ := h
 unfold maxLen at hl
 have hi0 : ¬ (i : Int) < 0 := by omega
 rcases hs with ⟨rfl, rfl⟩ | ⟨ad, c, rfl, hc, hcell⟩
 ·go_enter Try.func6, Try.ntmps6
  go_wp2
  go_ret
  exact ⟨⟨0, rfl, ⟨by omega, by omega⟩, by decide⟩, rfl⟩
 ·obtain ⟨n, hn⟩ : ∃ n, xs.length = n := ⟨_, rfl⟩
  have HN := hJ hn
  rw [hn] at hl hc ⊢
  clear hn
  rcases Nat.lt_or_ge i n with hlt | hge
  ·obtain ⟨v, hv⟩ : ∃ v, xs[i]? = some v := ⟨_, List.getElem?_eq_getElem (by rw [HN.out]; exact hlt)⟩
   have hcv := hcell i v hv
   have HA := hJ (fun w' => aroundz_any v m w' h1 hm (hw v (List.mem_of_getElem? hv)))
   have HB := hJ (aroundZ_in v h1)
   have HM := hJ hm
   clear hcell hw
   go_enter Try.func6, Try.ntmps6
   go_wp2_with fail
   refine (HA.out _).mono ?_
   rintro e w1 ⟨rfl, rfl⟩
   go_wp2
   go_ret
   exact ⟨⟨_, rfl, HB.out, WalkArith.wf_i64 (by have := HB.out; have := HM.out; omega)⟩, rfl⟩
  ·have hge2 : ((n : Nat) : Int) ≤ (i : Int) := by omega
   go_enter Try.func6, Try.ntmps6
   go_wp2
   go_ret
   exact ⟨⟨0, rfl, ⟨by omega, by omega⟩, by decide⟩, rfl⟩
set_option maxRecDepth 100000 in
set_option maxHeartbeats 1600000 in
theorem p6_any (x y : Int) (w : World) :
  Calls Try.prog 28 #[.int .i64 x, .int .i64 y] w fun e w' => e = .returned (.agg #[.int .i64 x, .int .i64 y]) ∧ Below w.heap.size w w' := by
 obtain ⟨x1, hx1⟩ := nmz (w.alloc (.cells #[.int .i64 x, .int .i64 y] 25))
 have HB1 := hJ (show Below w.heap.size w x1 by rw [← hx1]; exact ((Below.refl _ _).alloc (Nat.le_refl _) _))
 have HQ1x0 := hJ (show BX 25 x1 w.heap.size #[.int .i64 x, .int .i64 y] by rw [← hx1]; exact (BX.at rfl))
 have HG1x0 := hJ (show w.heap.size ≤ w.heap.size by omega)
 have HL1x0 := hJ (show w.heap.size < x1.heap.size from HQ1x0.out.lt)
 go_enter Try.func28, Try.ntmps28
 go_wp2
 clear hx1
 exact bodyPost_ret (results_cell_row rfl _ _ _ _ _ _ _ rfl HQ1x0.out Try.underlying25 rfl G_size) rfl ⟨rfl, HB1.out⟩
set_option maxRecDepth 100000 in
set_option maxHeartbeats 1600000 in
theorem lives6_any (w : World) :
  Calls Try.prog 13 #[] w fun e w' => e = .returned (.bool true) ∧ Below w.heap.size w w' := by
 go_enter Try.func13, Try.ntmps13
 go_wp2_with fail
 refine (p6_any 0 0 w).mono ?_
 rintro e w1 ⟨rfl, hb⟩
 have HB1 := hJ hb
 clear hb
 go_wp2_with fail
 refine (p6_any 1 0 w1).mono ?_
 rintro e w2 ⟨rfl, hb⟩
 have HB2 := hJ hb
 clear hb
 go_wp2_with fail
 refine (p6_any 0 1 w2).mono ?_
 rintro e w3 ⟨rfl, hb⟩
 have HB3 := hJ hb
 clear hb
 go_wp2_with fail
 refine (sideof_any 0 0 1 0 0 1 w3).mono ?_
 rw [show soV 0 0 1 0 0 1 = 1 by decide, show soE 0 0 1 0 0 1 = 0 by decide]
 rintro e w4 ⟨rfl, hb⟩
 have HB4 := hJ hb
 clear hb
 go_wp2_with fail
 refine (p6_any 0 0 w4).mono ?_
 rintro e w5 ⟨rfl, hb⟩
 have HB5 := hJ hb
 clear hb
 go_wp2_with fail
 refine (p6_any 2 0 w5).mono ?_
 rintro e w6 ⟨rfl, hb⟩
 have HB6 := hJ hb
 clear hb
 go_wp2_with fail
 refine (p6_any 0 2 w6).mono ?_
 rintro e w7 ⟨rfl, hb⟩
 have HB7 := hJ hb
 clear hb
 go_wp2_with fail
 refine (p6_any 2 2 w7).mono ?_
 rintro e w8 ⟨rfl, hb⟩
 have HB8 := hJ hb
 clear hb
 go_wp2_with fail
 refine (circle_any 0 0 2 0 0 2 2 2 w8).mono ?_
 rw [show crV 0 0 2 0 0 2 2 2 = 0 by decide, show crE 0 0 2 0 0 2 2 2 = 0 by decide]
 rintro e w9 ⟨rfl, hb⟩
 have HB9 := hJ hb
 clear hb
 go_wp2_with fail
 refine (p6_any 0 0 w9).mono ?_
 rintro e w10 ⟨rfl, hb⟩
 have HB10 := hJ hb
 clear hb
 go_wp2_with fail
 refine (p6_any 2 0 w10).mono ?_
 rintro e w11 ⟨rfl, hb⟩
 have HB11 := hJ hb
 clear hb
 go_wp2_with fail
 refine (p6_any 0 2 w11).mono ?_
 rintro e w12 ⟨rfl, hb⟩
 have HB12 := hJ hb
 clear hb
 go_wp2_with fail
 refine (p6_any 1 1 w12).mono ?_
 rintro e w13 ⟨rfl, hb⟩
 have HB13 := hJ hb
 clear hb
 go_wp2_with fail
 refine (circle_any 0 0 2 0 0 2 1 1 w13).mono ?_
 rw [show crV 0 0 2 0 0 2 1 1 = 1 by decide, show crE 0 0 2 0 0 2 1 1 = 0 by decide]
 rintro e w14 ⟨rfl, hb⟩
 have HB14 := hJ hb
 clear hb
 go_wp2_with fail
 refine (p6_any 0 (-1) w14).mono ?_
 rintro e w15 ⟨rfl, hb⟩
 have HB15 := hJ hb
 clear hb
 go_wp2_with fail
 refine (p6_any (-1) 0 w15).mono ?_
 rintro e w16 ⟨rfl, hb⟩
 have HB16 := hJ hb
 clear hb
 go_wp2_with fail
 refine (turn_any 0 (-1) (-1) 0 w16).mono ?_
 rw [show tuV 0 (-1) (-1) 0 = 1 by decide, show tuE 0 (-1) (-1) 0 = 0 by decide]
 rintro e w17 ⟨rfl, hb⟩
 have HB17 := hJ hb
 clear hb
 have HC0_17 := hJ (bt (bt (bt (bt (bt (bt (bt (bt (bt (bt (bt (bt (bt (bt (bt (bt HB1.out HB2.out) HB3.out) HB4.out) HB5.out) HB6.out) HB7.out) HB8.out) HB9.out) HB10.out) HB11.out) HB12.out) HB13.out) HB14.out) HB15.out) HB16.out) HB17.out)
 go_wp2
 go_ret
 exact ⟨by first | rfl | kernel_rfl, HC0_17.out⟩
end Go.Proofs.Ytdamadkhbeonaaa
