/- The walk of WideOrder: the law returns true for every input; what lay lies as it lay. -/
import Derived.Test.YtpcliampffeknaaB7
import Derived.Deep.DeepCutAuto
namespace Go.Proofs.Ytpcliampffeknaa
open Go.RowKit
attribute [local go_sem ↓] Go.wp_at_zero Go.wp_at_succ
/-- A block whose first k structs of two cells are integers of the reference. -/
def Elems (w : World) (B k m : Nat) : Prop := ∀ i, i < k → ∃ (y : Int) (s : Bool) (A : Option Addr) (n c : Nat), w.cell? ⟨B, i * 2, none⟩ = some (.bool s) ∧ w.cell? ⟨B, i * 2 + 1, none⟩ = some (.slice A n c) ∧ RN w s A n c y ∧ y.natAbs < B2 m
theorem Elems.new {w w' : World} {B k m : Nat} (h : Elems w B k m) (hb : Below w.heap.size w w') : Elems w' B k m := by
  intro i hi
  obtain ⟨y, s, A, n, c, h1, h2, h3, h4⟩ := h i hi
  exact ⟨y, s, A, n, c, (hb.cell (World.block_lt_of_cell? w _ h1)).trans h1, (hb.cell (World.block_lt_of_cell? w _ h2)).trans h2, h3.new hb, h4⟩
theorem elems_lit3 {w : World} {t : TypeId} {s0 s1 s2 : Bool} {A0 A1 A2 : Option Addr} {n0 n1 n2 c0 c1 c2 m : Nat} {y0 y1 y2 : Int} (h0 : RN w s0 A0 n0 c0 y0) (g0 : y0.natAbs < B2 m) (h1 : RN w s1 A1 n1 c1 y1) (g1 : y1.natAbs < B2 m) (h2 : RN w s2 A2 n2 c2 y2) (g2 : y2.natAbs < B2 m) :
    Elems (w.alloc (.cells #[.bool s0, .slice A0 n0 c0, .bool s1, .slice A1 n1 c1, .bool s2, .slice A2 n2 c2] t)) w.heap.size 3 m := by
  have hb : Below w.heap.size w (w.alloc (.cells #[.bool s0, .slice A0 n0 c0, .bool s1, .slice A1 n1 c1, .bool s2, .slice A2 n2 c2] t)) := (Below.refl _ _).alloc (Nat.le_refl _) _
  have hh := heap_alloc_new w (.cells #[.bool s0, .slice A0 n0 c0, .bool s1, .slice A1 n1 c1, .bool s2, .slice A2 n2 c2] t)
  intro i hi
  match i, hi with
  | 0, _ => exact ⟨y0, s0, A0, n0, c0, (cell_of_row _ _ _ _ t (0, 0) hh).trans rfl, (cell_of_row _ _ _ _ t (0, 0) hh).trans rfl, h0.new hb, g0⟩
  | 1, _ => exact ⟨y1, s1, A1, n1, c1, (cell_of_row _ _ _ _ t (0, 0) hh).trans rfl, (cell_of_row _ _ _ _ t (0, 0) hh).trans rfl, h1.new hb, g1⟩
  | 2, _ => exact ⟨y2, s2, A2, n2, c2, (cell_of_row _ _ _ _ t (0, 0) hh).trans rfl, (cell_of_row _ _ _ _ t (0, 0) hh).trans rfl, h2.new hb, g2⟩
theorem RN.zero (w : World) : RN w false none 0 0 0 := ⟨rfl, by rw [Int.natAbs_zero, digs_zero]; rfl, by rw [Int.natAbs_zero, digs_zero]; exact LO.nil⟩
theorem B2.unit {k : Int} (h : -1 ≤ k ∧ k ≤ 1) : k.natAbs < B2 4 := by
  have : B2 4 = 16 := rfl
  omega
set_option maxRecDepth 100000 in
set_option maxHeartbeats 6400000 in
theorem wideOrder_walk (xs : List Int) (A : Option Addr) (ln c : Nat) (n : Int) (w : World) (hg : Got w (.slice A ln c) xs) (hnw : (Lit.int .i64 n).wf = true) :
    Calls Try.prog 6 #[.slice A ln c, .int .i64 n] w fun e w' => e = .returned (.bool true) ∧ Below w.heap.size w w' := by
  have HG := Lib.hid hg
  clear hg
  obtain ⟨hn1, hn2⟩ : -9223372036854775808 ≤ n ∧ n ≤ 9223372036854775807 := by simpa [Lit.wf, IntKind.min, IntKind.max, IntKind.signed, IntKind.bits] using hnw
  have HNW := Lib.hid hnw
  clear hnw
  go_enter Try.func6, Try.ntmps6
  go_wp2_with fail
  refine (number_any (.slice A ln c) xs 0 w HG.out (by decide)).mono ?_
  rintro e w1 ⟨x, s1, A1, n1, c1, rfl, hr1, hx1, hb1⟩
  obtain ⟨x1, hx⟩ : ∃ z, w1.alloc (.cells #[.bool s1, .slice A1 n1 c1] 25) = z := ⟨_, rfl⟩
  have HB1 := Lib.hid (show Below w.heap.size w x1 by rw [← hx]; exact hb1.alloc hb1.size _)
  have HQ1 := Lib.hid (show P2 25 x1 w1.heap.size (.bool s1) (.slice A1 n1 c1) by rw [← hx]; exact P2.lit _ _ _ _)
  have HR1 := Lib.hid (show RN x1 s1 A1 n1 c1 x by rw [← hx]; exact hr1.new ((Below.refl _ _).alloc (Nat.le_refl _) _))
  have HX := Lib.hid (numB2 hx1)
  have hl1 : n1 ≤ 240 := B2.rlen hr1 (numB2 hx1)
  have HBT1 := Lib.hid (show w1.heap.size < x1.heap.size from HQ1.out.lt)
  obtain ⟨b1, hb1e⟩ : ∃ b, w1.heap.size = b := ⟨_, rfl⟩
  rw [hb1e] at HQ1 HBT1
  clear hr1 hb1 hx1
  go_upto_region 2 with fail
  clear hx
  skip
  clear hb1e
  go_cut [6] (fun v wx => ∃ (B : Nat), v = .slice (some ⟨B, 0, none⟩) 3 3 ∧ Elems wx B 3 250 ∧ Below x1.heap.size x1 wx)
  case first =>
    let S := fun w' : World => w'.cell? ⟨b1, 0, none⟩ = some (.bool s1) ∧ w'.cell? ⟨b1, 1, none⟩ = some (.slice A1 n1 c1) ∧ Below x1.heap.size x1 w'
    have HS : Hid (∀ w', Below x1.heap.size x1 w' → S w') := Lib.hid (fun w' hb => ⟨(HQ1.out.new hb).cells.1, (HQ1.out.new hb).cells.2, hb⟩)
    have K1 : Hid (∀ w', S w' → Calls Try.prog 11 #[.slice A ln c, .int .i64 6] w' fun e w'' => (∃ (y : Int) (s : Bool) (A : Option Addr) (n c : Nat), e = .returned (.agg #[.bool s, .slice A n c]) ∧ Hid (y.natAbs < B2 240 ∧ RN w'' s A n c y ∧ n ≤ 240)) ∧ Below w'.heap.size w' w'' ∧ S w'') :=
      Lib.hid (fun w' h => (number_any (.slice A ln c) xs 6 w' ((HG.out.new HB1.out).new h.2.2) (by decide)).mono (fun e w'' ⟨y, s, A, n, c, he, hr, hx, hb⟩ => ⟨⟨y, s, A, n, c, he, Lib.hid ⟨numB2 hx, hr, B2.rlen hr (numB2 hx)⟩⟩, hb, HS.out _ (bt h.2.2 hb)⟩))
    have K2 : Hid (∀ w', S w' → Calls Try.prog 29 #[.int .i64 n, .int .i64 1] w' fun e w'' => (∃ k : Int, e = .returned (.int .i64 k) ∧ Hid (-1 ≤ k ∧ k ≤ 1)) ∧ Below w'.heap.size w' w'' ∧ S w'') :=
      Lib.hid (fun w' h => (bound_any n 1 w' (by decide) HNW.out).mono (fun e w'' ⟨⟨k, he, hk⟩, hw⟩ => by subst hw; exact ⟨⟨k, he, Lib.hid (by omega)⟩, Below.refl _ _, h⟩))
    have K3 : Hid (∀ w' k, S w' → Hid (-1 ≤ k ∧ k ≤ (1 : Int)) → Calls Try.prog 21 #[.int .i64 k] w' fun e w'' => (∃ s A n c, e = .returned (.agg #[.bool s, .slice A n c]) ∧ Hid (RN w'' s A n c k ∧ n ≤ 240)) ∧ Below w'.heap.size w' w'' ∧ S w'') :=
      Lib.hid (fun w' k h hk => (of_any k w' (WalkArith.wf_i64 (by have := hk.out; omega))).mono (fun e w'' ⟨s, A, n, c, he, hr, hb⟩ => ⟨⟨s, A, n, c, he, Lib.hid ⟨hr, by have := rn_len hr (m := 4) (by have := hk.out; omega); omega⟩⟩, hb, HS.out _ (bt h.2.2 hb)⟩))
    have K4 : Hid (∀ w' k s A n c, S w' → Hid (-1 ≤ k ∧ k ≤ (1 : Int)) → RN w' s A n c k ∧ n ≤ 240 → Calls Try.prog 25 #[.agg #[.bool s1, .slice A1 n1 c1], .agg #[.bool s, .slice A n c]] w' fun e w'' => (∃ s A n c, e = .returned (.agg #[.bool s, .slice A n c]) ∧ Hid (RN w'' s A n c (x + k))) ∧ Below w'.heap.size w' w'' ∧ S w'') :=
      Lib.hid (fun w' k s A n c h hk hr => (add_any x k s1 s A1 A n1 c1 n c w' (HR1.out.new h.2.2) hr.1 (by omega) (by have := hr.2; omega)).mono (fun e w'' ⟨s, A, n, c, he, hr, hb⟩ => ⟨⟨s, A, n, c, he, Lib.hid hr⟩, hb, HS.out _ (bt h.2.2 hb)⟩))
    have K5 : Hid (∀ w', S w' → Calls Try.prog 30 #[.agg #[.bool s1, .slice A1 n1 c1]] w' fun e w'' => (∃ s A n c, e = .returned (.agg #[.bool s, .slice A n c]) ∧ Hid (RN w'' s A n c (-x))) ∧ Below w'.heap.size w' w'' ∧ S w'') :=
      Lib.hid (fun w' h => (neg_any x s1 A1 n1 c1 w' (HR1.out.new h.2.2) (by omega)).mono (fun e w'' ⟨s, A, n, c, he, hr, hb⟩ => ⟨⟨s, A, n, c, he, Lib.hid hr⟩, hb, HS.out _ (bt h.2.2 hb)⟩))
    have HSA : Hid (∀ w' o, S w' → S (World.alloc w' o)) := Lib.hid (fun w' o h => HS.out _ (h.2.2.alloc h.2.2.size o))
    have bR := HS.out _ (Below.refl x1.heap.size x1).drew
    go_region_held3 (fun w' => w'.cell? ⟨b1, 0, none⟩ = some (.bool s1) ∧ w'.cell? ⟨b1, 1, none⟩ = some (.slice A1 n1 c1) ∧ Below x1.heap.size x1 w') (first | assumption | exact bR | exact HSA.out _ _ (by assumption) | go_keep)
      (first | (go_at_call 11; refine (K1.out _ ?_).mono ?_; assumption; rintro e w5 ⟨⟨y5, s5, A5, n5, c5, rfl, hr5⟩, hk5, hc5⟩) | (go_at_call 29; refine (K2.out _ ?_).mono ?_; assumption; rintro e w6 ⟨⟨k6, rfl, hr6⟩, hk6, hc6⟩) | (go_at_call 21; refine (K3.out _ k6 ?_ hr6).mono ?_; assumption; rintro e w7 ⟨⟨s7, A7, n7, c7, rfl, hr7⟩, hk7, hc7⟩) | (go_at_call 25; refine (K4.out _ k6 s7 A7 n7 c7 ?_ hr6 ?_).mono ?_; assumption; (first | exact hr7.out | exact ⟨hr7.out.1.new hk5, hr7.out.2⟩ | exact ⟨hr7.out.1.new hk9, hr7.out.2⟩ | exact ⟨hr7.out.1.new (bt hk5 hk9), hr7.out.2⟩ | exact ⟨hr7.out.1.new (bt hk9 hk5), hr7.out.2⟩); rintro e w8 ⟨⟨s8, A8, n8, c8, rfl, hr8⟩, hk8, hc8⟩) | (go_at_call 30; refine (K5.out _ ?_).mono ?_; assumption; rintro e w9 ⟨⟨s9, A9, n9, c9, rfl, hr9⟩, hk9, hc9⟩))
    all_goals
      rename_i hlast
      have HLB := Lib.hid hlast.2.2
      have HE := Lib.hid (elems_lit3 (t := 25) (m := 250) (hr5.out.2.1.new (bt hk6 (bt hk7 (bt hk8 hk9)))) (B2.le hr5.out.1 (by decide)) (hr8.out.new hk9) (B2.le (B2.add HX.out (B2.le (B2.unit hr6.out) (by decide))) (by decide)) hr9.out (B2.le (B2.neg HX.out) (by decide)))
      clear hlast
      go_wp2_with fail
      go_meet
      exact ⟨w9.heap.size, rfl, HE.out, HLB.out⟩
  case rest =>
    obtain ⟨B, rfl, hel, hb2⟩ := hcut
    have HE := Lib.hid hel
    have HB2 := Lib.hid hb2
    obtain ⟨x2, rfl⟩ := nm_world HB2.out
    have HQ2 := Lib.hid (HQ1.out.new HB2.out)
    have HR2 := Lib.hid (HR1.out.new HB2.out)
    have HW2 := Lib.hid (bt HB1.out HB2.out)
    obtain ⟨a0, a1⟩ := HQ2.out.cells
    clear hel hb2 HQ1 HR1
    go_wp2_with fail
    refine (wider_any x s1 A1 n1 c1 x2 HR2.out (by omega) (B2.lim HX.out (by decide))).mono ?_
    rintro e w3 ⟨s3, A3, n3, c3, rfl, hr3, hb3⟩
    obtain ⟨x3, hx3⟩ : ∃ z, w3.alloc (.cells #[.bool s3, .slice A3 n3 c3] 33) = z := ⟨_, rfl⟩
    have HB3 := Lib.hid (show Below x2.heap.size x2 x3 by rw [← hx3]; exact hb3.alloc hb3.size _)
    have HQ3 := Lib.hid (show P2 33 x3 w3.heap.size (.bool s3) (.slice A3 n3 c3) by rw [← hx3]; exact P2.lit _ _ _ _)
    have HR3 := Lib.hid (show PI x3 s3 A3 n3 c3 x by rw [← hx3]; exact PIo.new hr3 ((Below.refl _ _).alloc (Nat.le_refl _) _))
    have hl3 : n3 ≤ 240 := B2.plen hr3 HX.out
    have HN3 := Lib.hid (HQ2.out.new HB3.out)
    have HM3 := Lib.hid (HR2.out.new HB3.out)
    have HE3 := Lib.hid (HE.out.new HB3.out)
    have HW3 := Lib.hid (bt HW2.out HB3.out)
    obtain ⟨b3, hb3e⟩ : ∃ b, w3.heap.size = b := ⟨_, rfl⟩
    rw [hb3e] at HQ3
    clear hr3 hb3 a0 a1 HQ2 HR2 HE HW2 HB2 HB3
    go_wp2_with fail
    clear hx3 hb3e
    go_loopw [9] (fun v wr => ∃ i : Nat, i ≤ 3 ∧ v = .int .i64 (i : Int) ∧ P2 25 wr b1 (.bool s1) (.slice A1 n1 c1) ∧ RN wr s1 A1 n1 c1 x ∧ P2 33 wr b3 (.bool s3) (.slice A3 n3 c3) ∧ PI wr s3 A3 n3 c3 x ∧ Elems wr B 3 250 ∧ Below w.heap.size w wr) (fun v _ => 3 - (intOf v).toNat)
    case atStart => exact ⟨0, by omega, rfl, HN3.out, HM3.out, HQ3.out, HR3.out, HE3.out, HW3.out⟩
    case round =>
      obtain ⟨i, hi, rfl, hq1, hr1, hq3, hr3, hel, hbel⟩ := hrel
      have HQ1 := Lib.hid hq1
      have HR1 := Lib.hid hr1
      have HQ3 := Lib.hid hq3
      have HR3 := Lib.hid hr3
      have HE := Lib.hid hel
      have HBB := Lib.hid hbel
      clear hq1 hr1 hq3 hr3 hel hbel HN3 HM3 HE3 HW3
      by_cases hlt : i < 3
      · obtain ⟨y, s4, A4, n4, c4, e0, e1, hr4, hy⟩ := HE.out i hlt
        have HR4 := Lib.hid hr4
        have HY := Lib.hid hy
        have hl4 : n4 ≤ 250 := B2.rlen hr4 hy
        have HE0 := Lib.hid e0
        have HE1 := Lib.hid e1
        have h0i : (0 : Int) ≤ (i : Int) := by omega
        have hi3 : (i : Int) < 3 := by omega
        clear hr4 hy
        go_wp2_with fail
        refine (wider_any y s4 A4 n4 c4 wr HR4.out (by omega) (B2.lim HY.out (by decide))).mono ?_
        rintro e w5 ⟨s5, A5, n5, c5, rfl, hr5, hb5⟩
        obtain ⟨x5, hx5⟩ : ∃ z, w5.alloc (.cells #[.bool s5, .slice A5 n5 c5] 33) = z := ⟨_, rfl⟩
        have HB5 := Lib.hid (show Below wr.heap.size wr x5 by rw [← hx5]; exact hb5.alloc hb5.size _)
        have HQ5 := Lib.hid (show P2 33 x5 w5.heap.size (.bool s5) (.slice A5 n5 c5) by rw [← hx5]; exact P2.lit _ _ _ _)
        have HR5 := Lib.hid (show PI x5 s5 A5 n5 c5 y by rw [← hx5]; exact PIo.new hr5 ((Below.refl _ _).alloc (Nat.le_refl _) _))
        have hl5 : n5 ≤ 250 := B2.plen hr5 HY.out
        have HQ15 := Lib.hid (HQ1.out.new HB5.out)
        have HR15 := Lib.hid (HR1.out.new HB5.out)
        have HQ35 := Lib.hid (HQ3.out.new HB5.out)
        have HR35 := Lib.hid (PIo.new HR3.out HB5.out)
        have HR45 := Lib.hid (HR4.out.new HB5.out)
        have HE5 := Lib.hid (HE.out.new HB5.out)
        have HB05 := Lib.hid (bt HBB.out HB5.out)
        have HE05 := Lib.hid ((HB5.out.cell (World.block_lt_of_cell? wr _ HE0.out)).trans HE0.out)
        have HE15 := Lib.hid ((HB5.out.cell (World.block_lt_of_cell? wr _ HE1.out)).trans HE1.out)
        obtain ⟨b5, hb5e⟩ : ∃ b, w5.heap.size = b := ⟨_, rfl⟩
        rw [hb5e] at HQ5
        clear hr5 hb5 e0 e1 HQ1 HR1 HQ3 HR3 HR4 HE HBB HE0 HE1
        let S := fun w' : World => w'.cell? ⟨b1, 0, none⟩ = some (.bool s1) ∧ w'.cell? ⟨b1, 1, none⟩ = some (.slice A1 n1 c1) ∧ w'.cell? ⟨b3, 0, none⟩ = some (.bool s3) ∧ w'.cell? ⟨b3, 1, none⟩ = some (.slice A3 n3 c3) ∧ w'.cell? ⟨b5, 0, none⟩ = some (.bool s5) ∧ w'.cell? ⟨b5, 1, none⟩ = some (.slice A5 n5 c5) ∧ w'.cell? ⟨B, i * 2, none⟩ = some (.bool s4) ∧ w'.cell? ⟨B, i * 2 + 1, none⟩ = some (.slice A4 n4 c4) ∧ Below x5.heap.size x5 w'
        have HS : Hid (∀ w', Below x5.heap.size x5 w' → S w') := Lib.hid (fun w' hb => ⟨(HQ15.out.new hb).cells.1, (HQ15.out.new hb).cells.2, (HQ35.out.new hb).cells.1, (HQ35.out.new hb).cells.2, (HQ5.out.new hb).cells.1, (HQ5.out.new hb).cells.2, (hb.cell (World.block_lt_of_cell? x5 _ HE05.out)).trans HE05.out, (hb.cell (World.block_lt_of_cell? x5 _ HE15.out)).trans HE15.out, hb⟩)
        obtain ⟨u, hu⟩ : ∃ u, cmpI x y = u := ⟨_, rfl⟩
        obtain ⟨v, hv⟩ : ∃ u, cmpI y x = u := ⟨_, rfl⟩
        have HVu := Lib.hid hu
        have HVv := Lib.hid hv
        clear hu hv
        have K1 : Hid (∀ w', S w' → Calls Try.prog 31 #[.agg #[.bool s3, .slice A3 n3 c3], .agg #[.bool s5, .slice A5 n5 c5]] w' fun e w'' => e = .returned (.int .i64 u) ∧ S w'') :=
          Lib.hid (fun w' h => (pcompare_any x y s3 s5 A3 A5 n3 c3 n5 c5 w' (PIo.new HR35.out h.2.2.2.2.2.2.2.2) (PIo.new HR5.out h.2.2.2.2.2.2.2.2) (by omega) (by omega)).mono (fun e w'' ⟨he, hb⟩ => ⟨by rw [he, HVu.out], HS.out _ (bt h.2.2.2.2.2.2.2.2 hb)⟩))
        have K2 : Hid (∀ w', S w' → Calls Try.prog 32 #[.agg #[.bool s1, .slice A1 n1 c1], .agg #[.bool s4, .slice A4 n4 c4]] w' fun e w'' => e = .returned (.int .i64 u) ∧ S w'') :=
          Lib.hid (fun w' h => (rcompare_any x y s1 s4 A1 A4 n1 c1 n4 c4 w' (HR15.out.new h.2.2.2.2.2.2.2.2) (HR45.out.new h.2.2.2.2.2.2.2.2) (by omega) (by omega)).mono (fun e w'' ⟨he, hb⟩ => ⟨by rw [he, HVu.out], HS.out _ (bt h.2.2.2.2.2.2.2.2 hb)⟩))
        have K3 : Hid (∀ w', S w' → Calls Try.prog 31 #[.agg #[.bool s5, .slice A5 n5 c5], .agg #[.bool s3, .slice A3 n3 c3]] w' fun e w'' => e = .returned (.int .i64 v) ∧ S w'') :=
          Lib.hid (fun w' h => (pcompare_any y x s5 s3 A5 A3 n5 c5 n3 c3 w' (PIo.new HR5.out h.2.2.2.2.2.2.2.2) (PIo.new HR35.out h.2.2.2.2.2.2.2.2) (by omega) (by omega)).mono (fun e w'' ⟨he, hb⟩ => ⟨by rw [he, HVv.out], HS.out _ (bt h.2.2.2.2.2.2.2.2 hb)⟩))
        have K4 : Hid (∀ w', S w' → Calls Try.prog 32 #[.agg #[.bool s4, .slice A4 n4 c4], .agg #[.bool s1, .slice A1 n1 c1]] w' fun e w'' => e = .returned (.int .i64 v) ∧ S w'') :=
          Lib.hid (fun w' h => (rcompare_any y x s4 s1 A4 A1 n4 c4 n1 c1 w' (HR45.out.new h.2.2.2.2.2.2.2.2) (HR15.out.new h.2.2.2.2.2.2.2.2) (by omega) (by omega)).mono (fun e w'' ⟨he, hb⟩ => ⟨by rw [he, HVv.out], HS.out _ (bt h.2.2.2.2.2.2.2.2 hb)⟩))
        have bR := HS.out _ (Below.refl x5.heap.size x5).drew
        go_wp2_with fail
        go_region_held3 (fun w' => w'.cell? ⟨b1, 0, none⟩ = some (.bool s1) ∧ w'.cell? ⟨b1, 1, none⟩ = some (.slice A1 n1 c1) ∧ w'.cell? ⟨b3, 0, none⟩ = some (.bool s3) ∧ w'.cell? ⟨b3, 1, none⟩ = some (.slice A3 n3 c3) ∧ w'.cell? ⟨b5, 0, none⟩ = some (.bool s5) ∧ w'.cell? ⟨b5, 1, none⟩ = some (.slice A5 n5 c5) ∧ w'.cell? ⟨B, i * 2, none⟩ = some (.bool s4) ∧ w'.cell? ⟨B, i * 2 + 1, none⟩ = some (.slice A4 n4 c4) ∧ Below x5.heap.size x5 w') (first | assumption | exact bR | go_keep)
          (first | (go_at_call_of 31 (#[Value.agg #[.bool s3, .slice A3 n3 c3], .agg #[.bool s5, .slice A5 n5 c5]]); refine (K1.out _ ?_).mono ?_; assumption; rintro e w7 ⟨rfl, hc7⟩) | (go_at_call_of 32 (#[Value.agg #[.bool s1, .slice A1 n1 c1], .agg #[.bool s4, .slice A4 n4 c4]]); refine (K2.out _ ?_).mono ?_; assumption; rintro e w8 ⟨rfl, hc8⟩) | (go_at_call_of 31 (#[Value.agg #[.bool s5, .slice A5 n5 c5], .agg #[.bool s3, .slice A3 n3 c3]]); refine (K3.out _ ?_).mono ?_; assumption; rintro e w9 ⟨rfl, hc9⟩) | (go_at_call_of 32 (#[Value.agg #[.bool s4, .slice A4 n4 c4], .agg #[.bool s1, .slice A1 n1 c1]]); refine (K4.out _ ?_).mono ?_; assumption; rintro e w10 ⟨rfl, hc10⟩))
        all_goals
          rename_i hlast
          have HL := Lib.hid hlast.2.2.2.2.2.2.2.2
          clear hlast
          go_wp2
          go_roundw
          case rel => exact ⟨i + 1, by omega, by go_num, HQ15.out.new HL.out, HR15.out.new HL.out, HQ35.out.new HL.out, PIo.new HR35.out HL.out, HE5.out.new HL.out, bt HB05.out HL.out⟩
          case measure => simp [intOf]; omega
      · obtain rfl : i = 3 := by omega
        clear hlt
        let S := fun w' : World => w'.cell? ⟨b1, 0, none⟩ = some (.bool s1) ∧ w'.cell? ⟨b1, 1, none⟩ = some (.slice A1 n1 c1) ∧ w'.cell? ⟨b3, 0, none⟩ = some (.bool s3) ∧ w'.cell? ⟨b3, 1, none⟩ = some (.slice A3 n3 c3) ∧ Below wr.heap.size wr w'
        have HS : Hid (∀ w', Below wr.heap.size wr w' → S w') := Lib.hid (fun w' hb => ⟨(HQ1.out.new hb).cells.1, (HQ1.out.new hb).cells.2, (HQ3.out.new hb).cells.1, (HQ3.out.new hb).cells.2, hb⟩)
        obtain ⟨u, hu⟩ : ∃ u, cmpI x 0 = u := ⟨_, rfl⟩
        have HVu := Lib.hid hu
        clear hu
        have K1 : Hid (∀ w', S w' → Calls Try.prog 33 #[.agg #[.bool s3, .slice A3 n3 c3]] w' fun e w'' => e = .returned (.int .i64 u) ∧ S w'') :=
          Lib.hid (fun w' h => (sign_any x s3 A3 n3 c3 w' (PIo.new HR3.out h.2.2.2.2) (by omega)).mono (fun e w'' ⟨he, hb⟩ => ⟨by rw [he, HVu.out], HS.out _ (bt h.2.2.2.2 hb)⟩))
        have K2 : Hid (∀ w', S w' → Calls Try.prog 32 #[.agg #[.bool s1, .slice A1 n1 c1], .agg #[.bool false, .slice none 0 0]] w' fun e w'' => e = .returned (.int .i64 u) ∧ S w'') :=
          Lib.hid (fun w' h => (rcompare_any x 0 s1 false A1 none n1 c1 0 0 w' (HR1.out.new h.2.2.2.2) (RN.zero w') (by omega) (by omega)).mono (fun e w'' ⟨he, hb⟩ => ⟨by rw [he, HVu.out], HS.out _ (bt h.2.2.2.2 hb)⟩))
        have K3 : Hid (∀ w', S w' → Calls Try.prog 34 #[.agg #[.bool s3, .slice A3 n3 c3]] w' fun e w'' => (∃ s A n c, e = .returned (.agg #[.bool s, .slice A n c]) ∧ Hid (PI w'' s A n c (-x))) ∧ Below w'.heap.size w' w'' ∧ S w'') :=
          Lib.hid (fun w' h => (pneg_any x s3 A3 n3 c3 w' (PIo.new HR3.out h.2.2.2.2) (by omega)).mono (fun e w'' ⟨s, A, n, c, he, hr, hb⟩ => ⟨⟨s, A, n, c, he, Lib.hid hr⟩, hb, HS.out _ (bt h.2.2.2.2 hb)⟩))
        have K4 : Hid (∀ w', S w' → Calls Try.prog 30 #[.agg #[.bool s1, .slice A1 n1 c1]] w' fun e w'' => (∃ s A n c, e = .returned (.agg #[.bool s, .slice A n c]) ∧ Hid (RN w'' s A n c (-x))) ∧ Below w'.heap.size w' w'' ∧ S w'') :=
          Lib.hid (fun w' h => (neg_any x s1 A1 n1 c1 w' (HR1.out.new h.2.2.2.2) (by omega)).mono (fun e w'' ⟨s, A, n, c, he, hr, hb⟩ => ⟨⟨s, A, n, c, he, Lib.hid hr⟩, hb, HS.out _ (bt h.2.2.2.2 hb)⟩))
        have K5 : Hid (∀ w' s A n c s' A' n' c', S w' → Hid (PI w' s A n c (-x)) → Hid (RN w' s' A' n' c' (-x)) → Calls Try.prog 16 #[.agg #[.bool s, .slice A n c], .agg #[.bool s', .slice A' n' c']] w' fun e w'' => e = .returned (.bool true) ∧ S w'') :=
          Lib.hid (fun w' s A n c s' A' n' c' h hp hr => (equal_any (-x) (-x) s s' A A' n c n' c' w' hp.out hr.out (by have := B2.plen hp.out (B2.neg HX.out); omega) (by have := B2.rlen hr.out (B2.neg HX.out); omega)).mono (fun e w'' ⟨he, hb⟩ => ⟨by rw [he, eqB_self], HS.out _ (bt h.2.2.2.2 hb)⟩))
        have K6 : Hid (∀ w', S w' → Calls Try.prog 18 #[] w' fun e w'' => e = .returned (.bool true) ∧ S w'') :=
          Lib.hid (fun w' h => (lives_any w').mono (fun e w'' ⟨he, hb⟩ => ⟨he, HS.out _ (bt h.2.2.2.2 hb)⟩))
        have bR := HS.out _ (Below.refl wr.heap.size wr).drew
        go_wp2_with fail
        go_region_held3 (fun w' => w'.cell? ⟨b1, 0, none⟩ = some (.bool s1) ∧ w'.cell? ⟨b1, 1, none⟩ = some (.slice A1 n1 c1) ∧ w'.cell? ⟨b3, 0, none⟩ = some (.bool s3) ∧ w'.cell? ⟨b3, 1, none⟩ = some (.slice A3 n3 c3) ∧ Below wr.heap.size wr w') (first | assumption | exact bR | go_keep)
          (first | (go_at_call 33; refine (K1.out _ ?_).mono ?_; assumption; rintro e w7 ⟨rfl, hc7⟩) | (go_at_call 32; refine (K2.out _ ?_).mono ?_; assumption; rintro e w8 ⟨rfl, hc8⟩) | (go_at_call 34; refine (K3.out _ ?_).mono ?_; assumption; rintro e w9 ⟨⟨s9, A9, n9, c9, rfl, hr9⟩, hk9, hc9⟩) | (go_at_call 30; refine (K4.out _ ?_).mono ?_; assumption; rintro e w10 ⟨⟨s10, A10, n10, c10, rfl, hr10⟩, hk10, hc10⟩) | (go_at_call 16; refine (K5.out _ s9 A9 n9 c9 s10 A10 n10 c10 ?_ (Lib.hid (PIo.new hr9.out hk10)) hr10).mono ?_; assumption; rintro e w11 ⟨rfl, hc11⟩) | (go_at_call 18; refine (K6.out _ ?_).mono ?_; assumption; rintro e w12 ⟨rfl, hc12⟩))
        all_goals
          rename_i hlast
          have HL := Lib.hid hlast.2.2.2.2
          clear hlast
          go_wp2
          go_ret
          exact ⟨rfl, bt HBB.out HL.out⟩
theorem wideOrder_law (a0 : Option Addr) (len0 cap0 : Nat) (z0 : List Int) (a1 : Int) (w : World) (w0 : RowI .i64 w a0 len0 cap0 z0) (w1 : (Lit.int .i64 a1).wf = true) :
    Calls Try.prog 6 #[.slice a0 len0 cap0, .int .i64 a1] w fun e w' => e = .returned (.bool true) ∧ Below w.heap.size w w' := by
  obtain ⟨ls, h1, h2, h3, h4⟩ := w0.open_
  exact wideOrder_walk ls a0 len0 cap0 a1 w ⟨h4, by rw [h1]; exact h2, h3⟩ w1
end Go.Proofs.Ytpcliampffeknaa
