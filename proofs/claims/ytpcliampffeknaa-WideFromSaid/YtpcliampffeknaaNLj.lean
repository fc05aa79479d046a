/- The walk of WideFrom: the law returns true for every input; what lay lies as it lay. -/
import Derived.Test.YtpcliampffeknaaNLg
import Derived.Test.YtpcliampffeknaaNRh
namespace Go.Proofs.Ytpcliampffeknaa
open Go.RowKit
attribute [local go_sem ↓] Go.wp_at_zero Go.wp_at_succ
theorem elems_lit2 {w : World} {t : TypeId} {s0 s1 : Bool} {A0 A1 : Option Addr} {n0 n1 c0 c1 m : Nat} {y0 y1 : Int} (h0 : RN w s0 A0 n0 c0 y0) (g0 : y0.natAbs < B2 m) (h1 : RN w s1 A1 n1 c1 y1) (g1 : y1.natAbs < B2 m) :
    Elems (w.alloc (.cells #[.bool s0, .slice A0 n0 c0, .bool s1, .slice A1 n1 c1] t)) w.heap.size 2 m := by
  have hb : Below w.heap.size w (w.alloc (.cells #[.bool s0, .slice A0 n0 c0, .bool s1, .slice A1 n1 c1] t)) := (Below.refl _ _).alloc (Nat.le_refl _) _
  have hh := heap_alloc_new w (.cells #[.bool s0, .slice A0 n0 c0, .bool s1, .slice A1 n1 c1] t)
  intro i hi
  match i, hi with
  | 0, _ => exact ⟨y0, s0, A0, n0, c0, (cell_of_row _ _ _ _ t (0, 0) hh).trans rfl, (cell_of_row _ _ _ _ t (0, 0) hh).trans rfl, h0.new hb, g0⟩
  | 1, _ => exact ⟨y1, s1, A1, n1, c1, (cell_of_row _ _ _ _ t (0, 0) hh).trans rfl, (cell_of_row _ _ _ _ t (0, 0) hh).trans rfl, h1.new hb, g1⟩
theorem near63 {a b : Nat} (ha : a < 7) (hb : b < 2) : (nearV (4 * (a : Int) + 3 + 28 * (b : Int))).natAbs < B2 70 := by
  have h1 : aroundI (4 * (a : Int) + 3 + 28 * (b : Int)) 28 = 4 * a + 3 := by
    unfold aroundI
    rw [if_neg (by omega)]
    omega
  have h2 : (4 * a + 3) % 4 = 3 := by omega
  have h3 : nearE 3 = 63 := rfl
  have h4 : (2 : Nat) ^ 63 = 9223372036854775808 := rfl
  have h5 : B2 70 = 1180591620717411303424 := rfl
  unfold nearV
  rw [h1, h2, h3, h4, h5]
  split <;> omega
theorem RetS_eq {x u : Int} {b : Bool} {w : World} (h1 : smV x = u) (h2 : isSm x = b) : RetS x w = fun e w' => e = .returned (.tuple #[.int .i64 u, .bool b]) ∧ Below w.heap.size w w' := by
  subst h1 h2; rfl
set_option maxRecDepth 100000 in
set_option maxHeartbeats 6400000 in
theorem wideFrom_walk (m : Int) (xs : List Int) (A : Option Addr) (ln c : Nat) (k : Int) (w : World) (hg : Got w (.slice A ln c) xs) (hnw : (Lit.int .i64 m).wf = true) (hkw : (Lit.int .i64 k).wf = true) :
    Calls Try.prog 4 #[.int .i64 m, .slice A ln c, .int .i64 k] w fun e w' => e = .returned (.bool true) ∧ Below w.heap.size w w' := by
  have HG := Lib.hid hg
  have HNW := Lib.hid hnw
  obtain ⟨hk1, hk2⟩ : -9223372036854775808 ≤ k ∧ k ≤ 9223372036854775807 := by simpa [Lit.wf, IntKind.min, IntKind.max, IntKind.signed, IntKind.bits] using hkw
  obtain ⟨hm1, hm2⟩ : -9223372036854775808 ≤ m ∧ m ≤ 9223372036854775807 := by simpa [Lit.wf, IntKind.min, IntKind.max, IntKind.signed, IntKind.bits] using hnw
  have HKW := Lib.hid hkw
  have HMB := Lib.hid (show m.natAbs < B2 64 by have : B2 64 = 18446744073709551616 := rfl; omega)
  have HSM := Lib.hid (show smV m = m ∧ isSm m = true by
    have h : isSm m = true := decide_eq_true ⟨hm1, hm2⟩
    exact ⟨by rw [smV, if_pos h], h⟩)
  obtain ⟨q, hq⟩ : ∃ q, k.tdiv 7 = q := ⟨_, rfl⟩
  have hqb : -9223372036854775808 ≤ q ∧ q ≤ 9223372036854775807 := by
    rw [← hq]
    rcases Int.le_total 0 k with h | h
    · rw [Int.tdiv_eq_ediv_of_nonneg h]; omega
    · have e : k.tdiv 7 = -((-k) / 7) := by rw [← Int.tdiv_eq_ediv_of_nonneg (by omega), Int.neg_tdiv, Int.neg_neg]
      rw [e]; omega
  obtain ⟨hq1, hq2⟩ := hqb
  have HQW := Lib.hid (show (Lit.int .i64 q).wf = true from WalkArith.wf_i64 ⟨hq1, hq2⟩)
  have hwq : IntKind.i64.wrap q = q := IntWalk.i64_in _ ⟨hq1, hq2⟩
  clear hg hnw hkw
  go_enter Try.func4, Try.ntmps4
  go_wp2_with fail
  refine (from_any m w HNW.out).mono ?_
  rintro e w1 ⟨s1, A1, n1, c1, rfl, hr1, hb1⟩
  obtain ⟨x1, hx⟩ : ∃ z, w1.alloc (.cells #[.bool s1, .slice A1 n1 c1] 33) = z := ⟨_, rfl⟩
  have HB1 := Lib.hid (show Below w.heap.size w x1 by rw [← hx]; exact hb1.alloc hb1.size _)
  have HQ1 := Lib.hid (show P2 33 x1 w1.heap.size (.bool s1) (.slice A1 n1 c1) by rw [← hx]; exact P2.lit _ _ _ _)
  have HR1 := Lib.hid (show PI x1 s1 A1 n1 c1 m by rw [← hx]; exact PIo.new hr1 ((Below.refl _ _).alloc (Nat.le_refl _) _))
  have hl1 : n1 ≤ 64 := B2.plen hr1 HMB.out
  obtain ⟨b1, hb1e⟩ : ∃ b, w1.heap.size = b := ⟨_, rfl⟩
  rw [hb1e] at HQ1
  obtain ⟨a0, a1⟩ := HQ1.out.cells
  clear hr1 hb1
  go_wp2_with fail
  refine (psmall_any m s1 A1 n1 c1 x1 HR1.out (by omega)).mono ?_
  rintro e w2 ⟨rfl, hb2⟩
  rw [HSM.out.1, HSM.out.2]
  have HB2 := Lib.hid hb2
  clear hb2 hx hb1e a0 a1
  have HQ2 := Lib.hid (HQ1.out.new HB2.out)
  have HR2 := Lib.hid (PIo.new HR1.out HB2.out)
  have HW2 := Lib.hid (bt HB1.out HB2.out)
  clear HQ1 HR1 HB2
  let S := fun w' : World => w'.cell? ⟨b1, 0, none⟩ = some (.bool s1) ∧ w'.cell? ⟨b1, 1, none⟩ = some (.slice A1 n1 c1) ∧ Below w2.heap.size w2 w'
  have HS : Hid (∀ w', Below w2.heap.size w2 w' → S w') := Lib.hid (fun w' hb => ⟨(HQ2.out.new hb).cells.1, (HQ2.out.new hb).cells.2, hb⟩)
  have K1 : Hid (∀ w', S w' → Calls Try.prog 21 #[.int .i64 m] w' fun e w'' => (∃ s A n c, e = .returned (.agg #[.bool s, .slice A n c]) ∧ Hid (RN w'' s A n c m ∧ n ≤ 64)) ∧ S w'') :=
    Lib.hid (fun w' h => (of_any m w' HNW.out).mono (fun e w'' ⟨s, A, n, c, he, hr, hb⟩ => ⟨⟨s, A, n, c, he, Lib.hid ⟨hr, B2.rlen hr HMB.out⟩⟩, HS.out _ (bt h.2.2 hb)⟩))
  have K2 : Hid (∀ w' s A n c, S w' → Hid (RN w' s A n c m ∧ n ≤ 64) → Calls Try.prog 16 #[.agg #[.bool s1, .slice A1 n1 c1], .agg #[.bool s, .slice A n c]] w' fun e w'' => e = .returned (.bool true) ∧ S w'') :=
    Lib.hid (fun w' s A n c h hr => (equal_any m m s1 s A1 A n1 c1 n c w' (PIo.new HR2.out h.2.2) hr.out.1 (by omega) (by have := hr.out.2; omega)).mono (fun e w'' ⟨he, hb⟩ => ⟨by rw [he, eqB_self], HS.out _ (bt h.2.2 hb)⟩))
  have bR := HS.out _ (Below.refl w2.heap.size w2).drew
  go_wp2_with fail
  go_region_held3 (fun w' => w'.cell? ⟨b1, 0, none⟩ = some (.bool s1) ∧ w'.cell? ⟨b1, 1, none⟩ = some (.slice A1 n1 c1) ∧ Below w2.heap.size w2 w') (first | assumption | exact bR | go_keep)
    (first | (go_at_call 21; refine (K1.out _ ?_).mono ?_; assumption; rintro e w7 ⟨⟨s7, A7, n7, c7, rfl, hr7⟩, hc7⟩) | (go_at_call 16; refine (K2.out _ s7 A7 n7 c7 ?_ hr7).mono ?_; assumption; rintro e w8 ⟨rfl, hc8⟩))
  all_goals
    rename_i hlast
    have HB3 := Lib.hid hlast.2.2
    obtain ⟨x3, rfl⟩ := nm_world HB3.out
    have HW3 := Lib.hid (bt HW2.out HB3.out)
    clear hlast bR
    go_wp2_with fail
    refine (number_any (.slice A ln c) xs 0 x3 (HG.out.new HW3.out) (by decide)).mono ?_
    rintro e w4 ⟨x, s4, A4, n4, c4, rfl, hr4, hx4, hb4⟩
    have HR4 := Lib.hid hr4
    have HX := Lib.hid (numB2 hx4)
    have HW4 := Lib.hid (bt HW3.out hb4)
    clear hr4 hx4 hb4
    have ha7 := aroundI_lt k (n := 7) (by decide)
    have hb2 := aroundI_lt q (n := 2) (by decide)
    have HA := Lib.hid (fun w => around_any k 7 w (by decide) (by decide) HKW.out)
    have HB := Lib.hid (fun w => around_any q 2 w (by decide) (by decide) HQW.out)
    generalize aroundI k 7 = a at ha7 HA
    generalize aroundI q 2 = b at hb2 HB
    go_wp2_with fail
    refine (HA.out w4).mono ?_
    rintro e w5 ⟨rfl, rfl⟩
    go_wp2_with fail
    refine (HB.out w4).mono ?_
    rintro e w5 ⟨rfl, rfl⟩
    go_wp2_with fail
    have HNB := Lib.hid (near63 (a := a) (b := b) ha7 hb2)
    obtain ⟨v, hv⟩ : ∃ v : Int, 4 * (a : Int) + 3 + 28 * (b : Int) = v := ⟨_, rfl⟩
    have hv1 : -1000 ≤ v ∧ v ≤ 1000 := by omega
    rw [hv] at HNB ⊢
    clear hv
    refine (near_any v w4 (WalkArith.wf_i64 (by omega))).mono ?_
    rintro e w5 ⟨s5, A5, n5, c5, rfl, hr5, hb5⟩
    have HE := Lib.hid (elems_lit2 (t := 25) (m := 240) (HR4.out.new hb5) HX.out hr5 (B2.le HNB.out (by decide)))
    obtain ⟨x5, hx5⟩ : ∃ z, w5.alloc (.cells #[.bool s4, .slice A4 n4 c4, .bool s5, .slice A5 n5 c5] 25) = z := ⟨_, rfl⟩
    rw [hx5] at HE
    have HW5 := Lib.hid (show Below w.heap.size w x5 by rw [← hx5]; exact (bt HW4.out hb5).alloc (bt HW4.out hb5).size _)
    obtain ⟨B, hBe⟩ : ∃ b, w5.heap.size = b := ⟨_, rfl⟩
    rw [hBe] at HE
    clear hr5 hb5
    go_wp2_with fail
    clear hx5 hBe
    go_loopw [11] (fun v wr => ∃ i : Nat, i ≤ 2 ∧ v = .int .i64 (i : Int) ∧ Elems wr B 2 240 ∧ Below w.heap.size w wr) (fun v _ => 2 - (intOf v).toNat)
    case atStart => exact ⟨0, by omega, rfl, HE.out, HW5.out⟩
    case round =>
      obtain ⟨i, hi, rfl, hel, hbel⟩ := hrel
      have HEL := Lib.hid hel
      have HBB := Lib.hid hbel
      clear hel hbel HE HW5
      by_cases hlt : i < 2
      · obtain ⟨y, s6, A6, n6, c6, e0, e1, hr6, hy⟩ := HEL.out i hlt
        have HR6 := Lib.hid hr6
        have HY := Lib.hid hy
        have hl6 : n6 ≤ 240 := B2.rlen hr6 hy
        have HE0 := Lib.hid e0
        have HE1 := Lib.hid e1
        have h0i : (0 : Int) ≤ (i : Int) := by omega
        have hi3 : (i : Int) < 2 := by omega
        clear hr6 hy
        go_wp2_with fail
        refine (wider_any y s6 A6 n6 c6 wr HR6.out (by omega) (B2.lim HY.out (by decide))).mono ?_
        rintro e w7 ⟨s7, A7, n7, c7, rfl, hr7, hb7⟩
        obtain ⟨x7, hx7⟩ : ∃ z, w7.alloc (.cells #[.bool s7, .slice A7 n7 c7] 33) = z := ⟨_, rfl⟩
        have HB7 := Lib.hid (show Below wr.heap.size wr x7 by rw [← hx7]; exact hb7.alloc hb7.size _)
        have HQ7 := Lib.hid (show P2 33 x7 w7.heap.size (.bool s7) (.slice A7 n7 c7) by rw [← hx7]; exact P2.lit _ _ _ _)
        have HR7 := Lib.hid (show PI x7 s7 A7 n7 c7 y by rw [← hx7]; exact PIo.new hr7 ((Below.refl _ _).alloc (Nat.le_refl _) _))
        have hl7 : n7 ≤ 240 := B2.plen hr7 HY.out
        obtain ⟨p0, p1⟩ := HQ7.out.cells
        clear hr7 hb7 e0 e1
        go_wp2_with fail
        refine (psmall_any y s7 A7 n7 c7 x7 HR7.out (by omega)).mono ?_
        obtain ⟨su, hsu⟩ : ∃ u, smV y = u := ⟨_, rfl⟩
        obtain ⟨sb, hsb⟩ : ∃ u, isSm y = u := ⟨_, rfl⟩
        have HSU := Lib.hid hsu
        have HSB := Lib.hid hsb
        rw [RetS_eq hsu hsb]
        clear hsu hsb
        rintro e w8 ⟨rfl, hb8⟩
        have HB8 := Lib.hid (bt HB7.out hb8)
        have e0 := (HB8.out.cell (World.block_lt_of_cell? wr _ HE0.out)).trans HE0.out
        have e1 := (HB8.out.cell (World.block_lt_of_cell? wr _ HE1.out)).trans HE1.out
        clear hb8 p0 p1 hx7
        go_wp2_with fail
        refine (rsmall_any y s6 A6 n6 c6 w8 (HR6.out.new HB8.out) (by omega)).mono ?_
        rw [RetS_eq HSU.out HSB.out]
        rintro e w9 ⟨rfl, hb9⟩
        have HB9 := Lib.hid (bt HB8.out hb9)
        clear hb9 e0 e1
        go_wp2
        go_roundw
        case rel => exact ⟨i + 1, by omega, by go_num, HEL.out.new HB9.out, bt HBB.out HB9.out⟩
        case measure => simp [intOf]; omega
      · obtain rfl : i = 2 := by omega
        go_wp2_with fail
        refine (lives_any wr).mono ?_
        rintro e w5 ⟨rfl, hb5⟩
        have HB5 := Lib.hid (bt HBB.out hb5)
        clear hb5
        go_wp2
        go_ret
        exact ⟨rfl, HB5.out⟩
theorem wideFrom_law (a0 : Int) (a1 : Option Addr) (len1 cap1 : Nat) (z1 : List Int) (a2 : Int) (w : World) (w0 : (Lit.int .i64 a0).wf = true) (w1 : RowI .i64 w a1 len1 cap1 z1) (w2 : (Lit.int .i64 a2).wf = true) :
    Calls Try.prog 4 #[.int .i64 a0, .slice a1 len1 cap1, .int .i64 a2] w fun e w' => e = .returned (.bool true) ∧ Below w.heap.size w w' := by
  obtain ⟨ls, h1, h2, h3, h4⟩ := w1.open_
  exact wideFrom_walk a0 ls a1 len1 cap1 a2 w ⟨h4, by rw [h1]; exact h2, h3⟩ w0 w2
end Go.Proofs.Ytpcliampffeknaa
