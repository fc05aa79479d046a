/- The walk of WideSums: the law returns true for every input; what lay lies as it lay. -/
import Derived.Test.YtglccalghfannaaNLc
import Derived.Test.YtglccalghfannaaNRe
namespace Go.Proofs.Ytglccalghfannaa
open Go.RowKit
attribute [local go_sem ↓] Go.wp_at_zero Go.wp_at_succ
theorem sum_two {x y : Int} {k : Nat} (hx : x.natAbs < 2 ^ k) (hy : y.natAbs < 2 ^ k) : (x + y).natAbs < 2 ^ (k + 1) ∧ (x - y).natAbs < 2 ^ (k + 1) := by
  rw [Nat.pow_succ]
  generalize 2 ^ k = B at *
  omega
set_option maxRecDepth 100000 in
set_option maxHeartbeats 6400000 in
theorem wideSums_walk (xs : List Int) (A : Option Addr) (ln c : Nat) (w : World) (hg : Got w (.slice A ln c) xs) :
    Calls Try.prog 5 #[.slice A ln c] w fun e w' => e = .returned (.bool true) ∧ Below w.heap.size w w' := by
  have HG := Lib.hid hg
  clear hg
  go_enter Try.func5, Try.ntmps5
  go_wp2_with fail
  refine (number_any (.slice A ln c) xs 0 w HG.out (by decide)).mono ?_
  rintro e w1 ⟨x, s1, A1, n1, c1, rfl, hr1, hx, hb1⟩
  obtain ⟨x1, hx1⟩ : ∃ z, w1.alloc (.cells #[.bool s1, .slice A1 n1 c1] 25) = z := ⟨_, rfl⟩
  have HB1 := Lib.hid (show Below w.heap.size w x1 by rw [← hx1]; exact hb1.alloc hb1.size _)
  have HQ1 := Lib.hid (show P2 25 x1 w1.heap.size (.bool s1) (.slice A1 n1 c1) by rw [← hx1]; exact P2.lit _ _ _ _)
  have HR1 := Lib.hid (show RN x1 s1 A1 n1 c1 x by rw [← hx1]; exact hr1.new ((Below.refl _ _).alloc (Nat.le_refl _) _))
  have HX := Lib.hid hx
  have hn1 : n1 ≤ 240 := rn_len hr1 (num_lt hx)
  clear hr1 hx hb1
  go_wp2_with fail
  refine (number_any (.slice A ln c) xs 6 x1 (HG.out.new HB1.out) (by decide)).mono ?_
  rintro e w2 ⟨y, s2, A2, n2, c2, rfl, hr2, hy, hb2⟩
  obtain ⟨x2, hx2⟩ : ∃ z, w2.alloc (.cells #[.bool s2, .slice A2 n2 c2] 25) = z := ⟨_, rfl⟩
  have HB2 := Lib.hid (show Below x1.heap.size x1 x2 by rw [← hx2]; exact hb2.alloc hb2.size _)
  have HQ2 := Lib.hid (show P2 25 x2 w2.heap.size (.bool s2) (.slice A2 n2 c2) by rw [← hx2]; exact P2.lit _ _ _ _)
  have HR2 := Lib.hid (show RN x2 s2 A2 n2 c2 y by rw [← hx2]; exact hr2.new ((Below.refl _ _).alloc (Nat.le_refl _) _))
  have HY := Lib.hid hy
  have hn2 : n2 ≤ 240 := rn_len hr2 (num_lt hy)
  obtain ⟨a0, a1⟩ := (HQ1.out.new HB2.out).cells
  clear hr2 hy hb2 hx1
  go_wp2_with fail
  refine (wider_any x s1 A1 n1 c1 x2 (HR1.out.new HB2.out) (by omega) (num_lim HX.out)).mono ?_
  rintro e w3 ⟨s3, A3, n3, c3, rfl, hr3, hb3⟩
  obtain ⟨x3, hx3⟩ : ∃ z, w3.alloc (.cells #[.bool s3, .slice A3 n3 c3] 33) = z := ⟨_, rfl⟩
  have HB3 := Lib.hid (show Below x2.heap.size x2 x3 by rw [← hx3]; exact hb3.alloc hb3.size _)
  have HQ3 := Lib.hid (show P2 33 x3 w3.heap.size (.bool s3) (.slice A3 n3 c3) by rw [← hx3]; exact P2.lit _ _ _ _)
  have HR3 := Lib.hid (show PI x3 s3 A3 n3 c3 x by rw [← hx3]; exact PIo.new hr3 ((Below.refl _ _).alloc (Nat.le_refl _) _))
  have hn3 : n3 ≤ 240 := pi_len hr3 (num_lt HX.out)
  obtain ⟨b0, b1⟩ := (HQ2.out.new HB3.out).cells
  clear hr3 hb3 hx2 a0 a1
  go_wp2_with fail
  refine (wider_any y s2 A2 n2 c2 x3 (HR2.out.new HB3.out) (by omega) (num_lim HY.out)).mono ?_
  rintro e w4 ⟨s4, A4, n4, c4, rfl, hr4, hb4⟩
  obtain ⟨x4, hx4⟩ : ∃ z, w4.alloc (.cells #[.bool s4, .slice A4 n4 c4] 33) = z := ⟨_, rfl⟩
  have HB4 := Lib.hid (show Below x3.heap.size x3 x4 by rw [← hx4]; exact hb4.alloc hb4.size _)
  have HQ4 := Lib.hid (show P2 33 x4 w4.heap.size (.bool s4) (.slice A4 n4 c4) by rw [← hx4]; exact P2.lit _ _ _ _)
  have HR4 := Lib.hid (show PI x4 s4 A4 n4 c4 y by rw [← hx4]; exact PIo.new hr4 ((Below.refl _ _).alloc (Nat.le_refl _) _))
  have hn4 : n4 ≤ 240 := pi_len hr4 (num_lt HY.out)
  obtain ⟨a0, a1⟩ := (HQ3.out.new HB4.out).cells
  obtain ⟨d0, d1⟩ := HQ4.out.cells
  clear hr4 hb4 hx3 b0 b1
  have HAD := Lib.hid (sum_two (num_lt HX.out) (num_lt HY.out))
  have HI1 := Lib.hid (in_lim (two_lim HAD.out.1 (by decide)))
  have HI2 := Lib.hid (in_lim (two_lim HAD.out.2 (by decide)))
  go_wp2_with fail
  refine (padd_any x y s3 s4 A3 A4 n3 c3 n4 c4 x4 (PIo.new HR3.out HB4.out) HR4.out (by omega) (by omega) (num_lim HX.out) (num_lim HY.out)).mono ?_
  rw [HI1.out.1, HI1.out.2]
  rintro e w5 ⟨s5, A5, n5, c5, rfl, hr5, hb5⟩
  obtain ⟨x5, hx5⟩ : ∃ z, w5.alloc (.cells #[.bool s5, .slice A5 n5 c5] 33) = z := ⟨_, rfl⟩
  have HB5 := Lib.hid (show Below x4.heap.size x4 x5 by rw [← hx5]; exact hb5.alloc hb5.size _)
  have HQ5 := Lib.hid (show P2 33 x5 w5.heap.size (.bool s5) (.slice A5 n5 c5) by rw [← hx5]; exact P2.lit _ _ _ _)
  have HR5 := Lib.hid (show PI x5 s5 A5 n5 c5 (x + y) by rw [← hx5]; exact PIo.new hr5 ((Below.refl _ _).alloc (Nat.le_refl _) _))
  have hn5 : n5 ≤ 241 := pi_len hr5 HAD.out.1
  have HB45 := Lib.hid (bt HB4.out HB5.out)
  obtain ⟨a50, a51⟩ := (HQ3.out.new HB45.out).cells
  obtain ⟨d50, d51⟩ := (HQ4.out.new HB5.out).cells
  clear hr5 hb5 hx4 a0 a1 d0 d1
  go_wp2_with fail
  refine (psub_any x y s3 s4 A3 A4 n3 c3 n4 c4 x5 (PIo.new HR3.out HB45.out) (PIo.new HR4.out HB5.out) (by omega) (by omega) (num_lim HX.out) (num_lim HY.out)).mono ?_
  rw [HI2.out.1, HI2.out.2]
  rintro e w6 ⟨s6, A6, n6, c6, rfl, hr6, hb6⟩
  obtain ⟨x6, hx6⟩ : ∃ z, w6.alloc (.cells #[.bool s6, .slice A6 n6 c6] 33) = z := ⟨_, rfl⟩
  have HB6 := Lib.hid (show Below x5.heap.size x5 x6 by rw [← hx6]; exact hb6.alloc hb6.size _)
  have HQ6 := Lib.hid (show P2 33 x6 w6.heap.size (.bool s6) (.slice A6 n6 c6) by rw [← hx6]; exact P2.lit _ _ _ _)
  have HR6 := Lib.hid (show PI x6 s6 A6 n6 c6 (x - y) by rw [← hx6]; exact PIo.new hr6 ((Below.refl _ _).alloc (Nat.le_refl _) _))
  have hn6 : n6 ≤ 241 := pi_len hr6 HAD.out.2
  have HC4 := Lib.hid (bt HB5.out HB6.out)
  have HC3 := Lib.hid (bt HB4.out HC4.out)
  have HC2 := Lib.hid (bt HB3.out HC3.out)
  have HC1 := Lib.hid (bt HB2.out HC2.out)
  have HE1 := Lib.hid (HQ1.out.new HC1.out)
  have HE2 := Lib.hid (HQ2.out.new HC2.out)
  have HE3 := Lib.hid (HQ3.out.new HC3.out)
  have HE4 := Lib.hid (HQ4.out.new HC4.out)
  have HE5 := Lib.hid (HQ5.out.new HB6.out)
  have HF1 := Lib.hid (HR1.out.new HC1.out)
  have HF2 := Lib.hid (HR2.out.new HC2.out)
  have HF3 := Lib.hid (PIo.new HR3.out HC3.out)
  have HF4 := Lib.hid (PIo.new HR4.out HC4.out)
  have HF5 := Lib.hid (PIo.new HR5.out HB6.out)
  have HW := Lib.hid (bt HB1.out HC1.out)
  clear hr6 hb6 hx5 a50 a51 d50 d51 HQ1 HQ2 HR1 HR2 HQ3 HR3 HQ4 HR4 HQ5 HR5 HI1 HI2 HC1 HC2 HC3 HC4 HB45 HB1 HB2 HB3 HB4 HB5 HB6
  let S := fun w' : World => w'.cell? ⟨w5.heap.size, 0, none⟩ = some (.bool s5) ∧ w'.cell? ⟨w5.heap.size, 1, none⟩ = some (.slice A5 n5 c5) ∧ w'.cell? ⟨w6.heap.size, 0, none⟩ = some (.bool s6) ∧ w'.cell? ⟨w6.heap.size, 1, none⟩ = some (.slice A6 n6 c6) ∧ w'.cell? ⟨w3.heap.size, 0, none⟩ = some (.bool s3) ∧ w'.cell? ⟨w3.heap.size, 1, none⟩ = some (.slice A3 n3 c3) ∧ w'.cell? ⟨w4.heap.size, 0, none⟩ = some (.bool s4) ∧ w'.cell? ⟨w4.heap.size, 1, none⟩ = some (.slice A4 n4 c4) ∧ w'.cell? ⟨w1.heap.size, 0, none⟩ = some (.bool s1) ∧ w'.cell? ⟨w1.heap.size, 1, none⟩ = some (.slice A1 n1 c1) ∧ w'.cell? ⟨w2.heap.size, 0, none⟩ = some (.bool s2) ∧ w'.cell? ⟨w2.heap.size, 1, none⟩ = some (.slice A2 n2 c2) ∧ Below x6.heap.size x6 w'
  have hS : ∀ w', Below x6.heap.size x6 w' → S w' := fun w' hb => ⟨(HE5.out.new hb).cells.1, (HE5.out.new hb).cells.2, (HQ6.out.new hb).cells.1, (HQ6.out.new hb).cells.2, (HE3.out.new hb).cells.1, (HE3.out.new hb).cells.2, (HE4.out.new hb).cells.1, (HE4.out.new hb).cells.2, (HE1.out.new hb).cells.1, (HE1.out.new hb).cells.2, (HE2.out.new hb).cells.1, (HE2.out.new hb).cells.2, hb⟩
  have K1 : Hid (∀ w', S w' → Calls Try.prog 29 #[.agg #[.bool s1, .slice A1 n1 c1], .agg #[.bool s2, .slice A2 n2 c2]] w' fun e w'' => (∃ s A n c, e = .returned (.agg #[.bool s, .slice A n c]) ∧ Hid (RN w'' s A n c (x + y) ∧ n ≤ 241)) ∧ S w'') :=
    Lib.hid (fun w' h => (add_any x y s1 s2 A1 A2 n1 c1 n2 c2 w' (HF1.out.new h.2.2.2.2.2.2.2.2.2.2.2.2) (HF2.out.new h.2.2.2.2.2.2.2.2.2.2.2.2) (by omega) (by omega)).mono (fun e w'' ⟨s, A, n, c, he, hr, hb⟩ => ⟨⟨s, A, n, c, he, Lib.hid ⟨hr, rn_len hr HAD.out.1⟩⟩, hS _ (bt h.2.2.2.2.2.2.2.2.2.2.2.2 hb)⟩))
  have K2 : Hid (∀ w', S w' → Calls Try.prog 30 #[.agg #[.bool s1, .slice A1 n1 c1], .agg #[.bool s2, .slice A2 n2 c2]] w' fun e w'' => (∃ s A n c, e = .returned (.agg #[.bool s, .slice A n c]) ∧ Hid (RN w'' s A n c (x - y) ∧ n ≤ 241)) ∧ S w'') :=
    Lib.hid (fun w' h => (sub_any x y s1 s2 A1 A2 n1 c1 n2 c2 w' (HF1.out.new h.2.2.2.2.2.2.2.2.2.2.2.2) (HF2.out.new h.2.2.2.2.2.2.2.2.2.2.2.2) (by omega) (by omega)).mono (fun e w'' ⟨s, A, n, c, he, hr, hb⟩ => ⟨⟨s, A, n, c, he, Lib.hid ⟨hr, rn_len hr HAD.out.2⟩⟩, hS _ (bt h.2.2.2.2.2.2.2.2.2.2.2.2 hb)⟩))
  have K3 : Hid (∀ w' s A n c, S w' → Hid (RN w' s A n c (x + y) ∧ n ≤ 241) → Calls Try.prog 18 #[.agg #[.bool s5, .slice A5 n5 c5], .agg #[.bool s, .slice A n c]] w' fun e w'' => e = .returned (.bool true) ∧ S w'') :=
    Lib.hid (fun w' s A n c h hr => (equal_any (x + y) (x + y) s5 s A5 A n5 c5 n c w' (PIo.new HF5.out h.2.2.2.2.2.2.2.2.2.2.2.2) hr.out.1 (by omega) (by have := hr.out.2; omega)).mono (fun e w'' ⟨he, hb⟩ => ⟨by rw [he, eqB_self], hS _ (bt h.2.2.2.2.2.2.2.2.2.2.2.2 hb)⟩))
  have K4 : Hid (∀ w' s A n c, S w' → Hid (RN w' s A n c (x - y) ∧ n ≤ 241) → Calls Try.prog 18 #[.agg #[.bool s6, .slice A6 n6 c6], .agg #[.bool s, .slice A n c]] w' fun e w'' => e = .returned (.bool true) ∧ S w'') :=
    Lib.hid (fun w' s A n c h hr => (equal_any (x - y) (x - y) s6 s A6 A n6 c6 n c w' (PIo.new HR6.out h.2.2.2.2.2.2.2.2.2.2.2.2) hr.out.1 (by omega) (by have := hr.out.2; omega)).mono (fun e w'' ⟨he, hb⟩ => ⟨by rw [he, eqB_self], hS _ (bt h.2.2.2.2.2.2.2.2.2.2.2.2 hb)⟩))
  have K5 : Hid (∀ w', S w' → Calls Try.prog 18 #[.agg #[.bool s3, .slice A3 n3 c3], .agg #[.bool s1, .slice A1 n1 c1]] w' fun e w'' => e = .returned (.bool true) ∧ S w'') :=
    Lib.hid (fun w' h => (equal_any x x s3 s1 A3 A1 n3 c3 n1 c1 w' (PIo.new HF3.out h.2.2.2.2.2.2.2.2.2.2.2.2) (HF1.out.new h.2.2.2.2.2.2.2.2.2.2.2.2) (by omega) (by omega)).mono (fun e w'' ⟨he, hb⟩ => ⟨by rw [he, eqB_self], hS _ (bt h.2.2.2.2.2.2.2.2.2.2.2.2 hb)⟩))
  have K6 : Hid (∀ w', S w' → Calls Try.prog 18 #[.agg #[.bool s4, .slice A4 n4 c4], .agg #[.bool s2, .slice A2 n2 c2]] w' fun e w'' => e = .returned (.bool true) ∧ S w'') :=
    Lib.hid (fun w' h => (equal_any y y s4 s2 A4 A2 n4 c4 n2 c2 w' (PIo.new HF4.out h.2.2.2.2.2.2.2.2.2.2.2.2) (HF2.out.new h.2.2.2.2.2.2.2.2.2.2.2.2) (by omega) (by omega)).mono (fun e w'' ⟨he, hb⟩ => ⟨by rw [he, eqB_self], hS _ (bt h.2.2.2.2.2.2.2.2.2.2.2.2 hb)⟩))
  have K7 : Hid (∀ w', S w' → Calls Try.prog 20 #[] w' fun e w'' => e = .returned (.bool true) ∧ S w'') :=
    Lib.hid (fun w' h => (lives_any w').mono (fun e w'' ⟨he, hb⟩ => ⟨he, hS _ (bt h.2.2.2.2.2.2.2.2.2.2.2.2 hb)⟩))
  have bR := hS _ (Below.refl x6.heap.size x6).drew
  clear hS
  go_wp2_with fail
  go_region_held3 (fun w' => w'.cell? ⟨w5.heap.size, 0, none⟩ = some (.bool s5) ∧ w'.cell? ⟨w5.heap.size, 1, none⟩ = some (.slice A5 n5 c5) ∧ w'.cell? ⟨w6.heap.size, 0, none⟩ = some (.bool s6) ∧ w'.cell? ⟨w6.heap.size, 1, none⟩ = some (.slice A6 n6 c6) ∧ w'.cell? ⟨w3.heap.size, 0, none⟩ = some (.bool s3) ∧ w'.cell? ⟨w3.heap.size, 1, none⟩ = some (.slice A3 n3 c3) ∧ w'.cell? ⟨w4.heap.size, 0, none⟩ = some (.bool s4) ∧ w'.cell? ⟨w4.heap.size, 1, none⟩ = some (.slice A4 n4 c4) ∧ w'.cell? ⟨w1.heap.size, 0, none⟩ = some (.bool s1) ∧ w'.cell? ⟨w1.heap.size, 1, none⟩ = some (.slice A1 n1 c1) ∧ w'.cell? ⟨w2.heap.size, 0, none⟩ = some (.bool s2) ∧ w'.cell? ⟨w2.heap.size, 1, none⟩ = some (.slice A2 n2 c2) ∧ Below x6.heap.size x6 w') (first | assumption | exact bR | go_keep)
    (first | (go_at_call 29; refine (K1.out _ ?_).mono ?_; assumption; rintro e w' ⟨⟨s7, A7, n7, c7, rfl, hr7⟩, hc'⟩) | (go_at_call 30; refine (K2.out _ ?_).mono ?_; assumption; rintro e w' ⟨⟨s8, A8, n8, c8, rfl, hr8⟩, hc'⟩) | (go_at_call_of 18 s5; refine (K3.out _ s7 A7 n7 c7 ?_ hr7).mono ?_; assumption; rintro e w' ⟨rfl, hc'⟩) | (go_at_call_of 18 s6; refine (K4.out _ s8 A8 n8 c8 ?_ hr8).mono ?_; assumption; rintro e w' ⟨rfl, hc'⟩) | (go_at_call_of 18 s3; refine (K5.out _ ?_).mono ?_; assumption; rintro e w' ⟨rfl, hc'⟩) | (go_at_call_of 18 s4; refine (K6.out _ ?_).mono ?_; assumption; rintro e w' ⟨rfl, hc'⟩) | (go_at_call 20; refine (K7.out _ ?_).mono ?_; assumption; rintro e w' ⟨rfl, hc'⟩))
  all_goals
    rename_i hlast
    have HL := Lib.hid (hlast.2.2.2.2.2.2.2.2.2.2.2.2)
    clear hlast
    go_wp2
    go_ret
    exact ⟨rfl, bt HW.out HL.out⟩
theorem wideSums_law (a0 : Option Addr) (len0 cap0 : Nat) (z0 : List Int) (w : World) (w0 : RowI .i64 w a0 len0 cap0 z0) :
    Calls Try.prog 5 #[.slice a0 len0 cap0] w fun e w' => e = .returned (.bool true) ∧ Below w.heap.size w w' := by
  obtain ⟨ls, h1, h2, h3, h4⟩ := w0.open_
  exact wideSums_walk ls a0 len0 cap0 w ⟨h4, by rw [h1]; exact h2, h3⟩
end Go.Proofs.Ytglccalghfannaa
