/- The walk of WideDivisors: the law returns true for every input; what lay lies as it lay. -/
import Derived.Test.YtpcliampffeknaaB7
import Derived.Test.YtpcliampffeknaaB6
import Derived.Deep.DeepCutAuto
namespace Go.Proofs.Ytpcliampffeknaa
open Go.RowKit
attribute [local go_sem ↓] Go.wp_at_zero Go.wp_at_succ
theorem cmpI_pos {a : Int} (h : 0 < a) : cmpI a 0 = 1 := by unfold cmpI; rw [if_neg (by omega), if_pos h]
theorem gcd_bd {a b : Int} {D k : Nat} (h : Nat.gcd a.natAbs b.natAbs = D) (ha : a.natAbs < B2 k) (hb : b.natAbs < B2 k) : (D : Int).natAbs < B2 k := by
  rw [Int.natAbs_natCast, ← h]
  rcases Nat.eq_zero_or_pos a.natAbs with e | e
  · rw [e, Nat.gcd_zero_left]; exact hb
  · exact Nat.lt_of_le_of_lt (Nat.gcd_le_left _ e) ha
theorem rn_zero {w : World} {s : Bool} {A : Option Addr} {n c : Nat} {x : Int} (h : RN w s A n c x) (hx : x = 0) : n = 0 := by
  have := h.2.1
  rw [hx, Int.natAbs_zero, digs_zero] at this
  exact this.symm
theorem gcd_zero_lens {a b : Int} {w : World} {s s' : Bool} {A A' : Option Addr} {n c n' c' : Nat} (h : Nat.gcd a.natAbs b.natAbs = 0) (ha : RN w s A n c a) (hb : RN w s' A' n' c' b) : n = 0 ∧ n' = 0 := by
  have h1 := Nat.eq_zero_of_gcd_eq_zero_left h
  have h2 := Nat.eq_zero_of_gcd_eq_zero_right h
  exact ⟨rn_zero ha (by omega), rn_zero hb (by omega)⟩
theorem gcd_facts {a b : Int} {D : Nat} (h : Nat.gcd a.natAbs b.natAbs = D) (hD : 0 < D) : a % (D : Int) = 0 ∧ b % (D : Int) = 0 ∧ Nat.gcd (a / (D : Int)).natAbs (b / (D : Int)).natAbs = 1 := by
  have h1 : D ∣ a.natAbs := by rw [← h]; exact Nat.gcd_dvd_left _ _
  have h2 : D ∣ b.natAbs := by rw [← h]; exact Nat.gcd_dvd_right _ _
  have g1 : (D : Int) ∣ a := Int.ofNat_dvd_left.2 h1
  have g2 : (D : Int) ∣ b := Int.ofNat_dvd_left.2 h2
  refine ⟨Int.emod_eq_zero_of_dvd g1, Int.emod_eq_zero_of_dvd g2, ?_⟩
  have e1 : (a / (D : Int)).natAbs = a.natAbs / D := by rw [Int.natAbs_ediv_of_dvd g1, Int.natAbs_natCast]
  have e2 : (b / (D : Int)).natAbs = b.natAbs / D := by rw [Int.natAbs_ediv_of_dvd g2, Int.natAbs_natCast]
  rw [e1, e2, Nat.gcd_div h1 h2, h, Nat.div_self hD]
set_option maxRecDepth 100000 in
set_option maxHeartbeats 6400000 in
theorem wideDivisors_walk (xs : List Int) (A : Option Addr) (ln c : Nat) (w : World) (hg : Got w (.slice A ln c) xs) :
    Calls Try.prog 7 #[.slice A ln c] w fun e w' => e = .returned (.bool true) ∧ Below w.heap.size w w' := by
  have HG0 := Lib.hid hg
  clear hg
  go_enter Try.func7, Try.ntmps7
  go_wp2_with fail
  refine (number_any (.slice A ln c) xs 12 w HG0.out (by decide)).mono ?_
  rintro e w1 ⟨v, s1, A1, n1, c1, rfl, hr1, hx1, hb1⟩
  obtain ⟨x1, hx⟩ : ∃ z, w1.alloc (.cells #[.bool s1, .slice A1 n1 c1] 25) = z := ⟨_, rfl⟩
  have HB1 := Lib.hid (show Below w.heap.size w x1 by rw [← hx]; exact hb1.alloc hb1.size _)
  have HQ1 := Lib.hid (show P2 25 x1 w1.heap.size (.bool s1) (.slice A1 n1 c1) by rw [← hx]; exact P2.lit _ _ _ _)
  have HR1 := Lib.hid (show RN x1 s1 A1 n1 c1 v by rw [← hx]; exact hr1.new ((Below.refl _ _).alloc (Nat.le_refl _) _))
  have HXv := Lib.hid (numB2 hx1)
  have hn1 : n1 ≤ 240 := B2.rlen hr1 (numB2 hx1)
  clear hr1 hb1 hx1
  have HG_1 := Lib.hid (HG0.out.new HB1.out)
  have HW_1 := Lib.hid (HB1.out)
  clear HG0 HB1
  go_upto_region 2 with fail
  clear hx
  go_cut [4] (fun p wx => ∃ (x : Int) (B : Nat) (s : Bool) (A : Option Addr) (n c : Nat), p = .pointer (some ⟨B, 0, none⟩) ∧ x.natAbs < B2 240 ∧ P2 25 wx B (.bool s) (.slice A n c) ∧ RN wx s A n c (x * v) ∧ Below x1.heap.size x1 wx)
  case first =>
    let S := fun w' : World => w'.cell? ⟨w1.heap.size, 0, none⟩ = some (.bool s1) ∧ w'.cell? ⟨w1.heap.size, 1, none⟩ = some (.slice A1 n1 c1) ∧ Below x1.heap.size x1 w'
    have HS : Hid (∀ w', Below x1.heap.size x1 w' → S w') := Lib.hid (fun w' hb => ⟨(HQ1.out.new hb).cells.1, (HQ1.out.new hb).cells.2, hb⟩)
    have HSA : Hid (∀ w' o, S w' → S (World.alloc w' o)) := Lib.hid (fun w' o h => HS.out _ (h.2.2.alloc h.2.2.size o))
    have HSS : Hid (∀ w' B u0 u1, S w' → x1.heap.size ≤ B → S ((w'.setCell ⟨B, 0, none⟩ u0).setCell ⟨B, 1, none⟩ u1)) := Lib.hid (fun w' B u0 u1 h hB => HS.out _ (below_box h.2.2 hB u0 u1))
    have K1 : Hid (∀ w', S w' → Calls Try.prog 11 #[.slice A ln c, .int .i64 0] w' fun e w'' => (∃ (x : Int) (s : Bool) (A : Option Addr) (n c : Nat), e = .returned (.agg #[.bool s, .slice A n c]) ∧ Hid (x.natAbs < B2 240 ∧ RN w'' s A n c x ∧ n ≤ 240)) ∧ Below w'.heap.size w' w'' ∧ S w'') :=
      Lib.hid (fun w' h => (number_any (.slice A ln c) xs 0 w' (Got.new HG_1.out h.2.2) (by decide)).mono (fun e w'' ⟨x, s, A, n, c, he, hr, hx, hb⟩ => ⟨⟨x, s, A, n, c, he, Lib.hid ⟨numB2 hx, hr, B2.rlen hr (numB2 hx)⟩⟩, hb, HS.out _ (bt h.2.2 hb)⟩))
    have K2 : Hid (∀ w' x s A n c, S w' → x.natAbs < B2 240 ∧ RN w' s A n c x ∧ n ≤ 240 → Calls Try.prog 26 #[.agg #[.bool s, .slice A n c], .agg #[.bool s1, .slice A1 n1 c1]] w' fun e w'' => (∃ s A n c, e = .returned (.agg #[.bool s, .slice A n c]) ∧ Hid (RN w'' s A n c (x * v))) ∧ Below w'.heap.size w' w'' ∧ S w'') :=
      Lib.hid (fun w' x s A n c h hx => (mul_any x v s s1 A A1 n c n1 c1 w' hx.2.1 (HR1.out.new h.2.2) (by have := hx.2.2; omega) (by omega)).mono (fun e w'' ⟨s, A, n, c, he, hr, hb⟩ => ⟨⟨s, A, n, c, he, Lib.hid hr⟩, hb, HS.out _ (bt h.2.2 hb)⟩))
    have bR := HS.out _ (Below.refl x1.heap.size x1).drew
    go_region_held3 (fun w' => w'.cell? ⟨w1.heap.size, 0, none⟩ = some (.bool s1) ∧ w'.cell? ⟨w1.heap.size, 1, none⟩ = some (.slice A1 n1 c1) ∧ Below x1.heap.size x1 w') (first | assumption | exact bR | exact HSA.out _ _ (by assumption) | exact HSS.out _ _ _ _ (by assumption) (Nat.le_refl _) | exact HSS.out _ _ _ _ (by assumption) (hle5.out) | exact HSS.out _ _ _ _ (by assumption) (hle6.out) | go_keep)
      (first | (go_at_call 11; refine (K1.out _ ?_).mono ?_; assumption; rintro e w5 ⟨⟨x, s5, A5, n5, c5, rfl, hr5⟩, hk5, hc5⟩; have hle5 := Lib.hid hc5.2.2.size) | (go_at_call 26; refine (K2.out _ x s5 A5 n5 c5 ?_ ?_).mono ?_; assumption; (first | exact hr5.out | exact ⟨hr5.out.1, hr5.out.2.1.new ((Below.refl _ _).alloc (Nat.le_refl _) _), hr5.out.2.2⟩); rintro e w6 ⟨⟨s6, A6, n6, c6, rfl, hr6⟩, hk6, hc6⟩; have hle6 := Lib.hid hc6.2.2.size; (first | (have HPZ := Lib.hid ((P2.lit w5 25 (.bool false) (.slice none 0 0)).new hk6); obtain ⟨z0, z1⟩ := HPZ.out.cells; have y0 := HPZ.out.frozen 0; have y1 := HPZ.out.frozen 1) | (have HPZ := Lib.hid (show P2 25 w6 x1.heap.size (.bool false) (.slice none 0 0) from ((P2.lit x1.drew 25 (.bool false) (.slice none 0 0)).new hk5).new hk6); obtain ⟨z0, z1⟩ := HPZ.out.cells; have y0 := HPZ.out.frozen 0; have y1 := HPZ.out.frozen 1) | skip)))
    all_goals
      rename_i hlast
      have HLB := Lib.hid hlast.2.2
      clear hlast
      go_wp2_with fail
      go_meet
      first
        | exact ⟨x, w6.heap.size, s6, A6, n6, c6, rfl, hr5.out.1, P2.lit _ _ _ _, hr6.out.new ((Below.refl _ _).alloc (Nat.le_refl _) _), HLB.out⟩
        | exact ⟨x, w5.heap.size, s6, A6, n6, c6, rfl, hr5.out.1, HPZ.out.all _ _, hr6.out.box HPZ.out rfl rfl _ _, HLB.out⟩
        | exact ⟨x, x1.heap.size, s6, A6, n6, c6, rfl, hr5.out.1, HPZ.out.all _ _, hr6.out.box HPZ.out rfl rfl _ _, HLB.out⟩
  case rest =>
    obtain ⟨x, G2, s2, A2, n2, c2, rfl, hx2, hq2, hr2, hb2⟩ := hcut
    have HB2 := Lib.hid hb2
    have HQ2 := Lib.hid hq2
    have HR2 := Lib.hid hr2
    have HXx := Lib.hid hx2
    have HMx := Lib.hid (B2.mul hx2 HXv.out)
    have hn2 : n2 ≤ 240 + 240 := B2.rlen hr2 HMx.out
    clear hx2 hq2 hr2 hb2
    obtain ⟨x2, rfl⟩ := nm_world HB2.out
    have HQ1_2 := Lib.hid (HQ1.out.new HB2.out)
    have HR1_2 := Lib.hid (HR1.out.new HB2.out)
    have HG_2 := Lib.hid (HG_1.out.new HB2.out)
    have HW_2 := Lib.hid (bt HW_1.out HB2.out)
    clear HQ1 HR1 HG_1 HW_1 HB2
    go_upto_region 3 with fail
    go_cut [5] (fun p wx => ∃ (x : Int) (B : Nat) (s : Bool) (A : Option Addr) (n c : Nat), p = .pointer (some ⟨B, 0, none⟩) ∧ x.natAbs < B2 240 ∧ P2 25 wx B (.bool s) (.slice A n c) ∧ RN wx s A n c (x * v) ∧ Below x2.heap.size x2 wx)
    case first =>
      let S := fun w' : World => w'.cell? ⟨w1.heap.size, 0, none⟩ = some (.bool s1) ∧ w'.cell? ⟨w1.heap.size, 1, none⟩ = some (.slice A1 n1 c1) ∧ Below x2.heap.size x2 w'
      have HS : Hid (∀ w', Below x2.heap.size x2 w' → S w') := Lib.hid (fun w' hb => ⟨(HQ1_2.out.new hb).cells.1, (HQ1_2.out.new hb).cells.2, hb⟩)
      have HSA : Hid (∀ w' o, S w' → S (World.alloc w' o)) := Lib.hid (fun w' o h => HS.out _ (h.2.2.alloc h.2.2.size o))
      have HSS : Hid (∀ w' B u0 u1, S w' → x2.heap.size ≤ B → S ((w'.setCell ⟨B, 0, none⟩ u0).setCell ⟨B, 1, none⟩ u1)) := Lib.hid (fun w' B u0 u1 h hB => HS.out _ (below_box h.2.2 hB u0 u1))
      have K1 : Hid (∀ w', S w' → Calls Try.prog 11 #[.slice A ln c, .int .i64 6] w' fun e w'' => (∃ (x : Int) (s : Bool) (A : Option Addr) (n c : Nat), e = .returned (.agg #[.bool s, .slice A n c]) ∧ Hid (x.natAbs < B2 240 ∧ RN w'' s A n c x ∧ n ≤ 240)) ∧ Below w'.heap.size w' w'' ∧ S w'') :=
        Lib.hid (fun w' h => (number_any (.slice A ln c) xs 6 w' (Got.new HG_2.out h.2.2) (by decide)).mono (fun e w'' ⟨x, s, A, n, c, he, hr, hx, hb⟩ => ⟨⟨x, s, A, n, c, he, Lib.hid ⟨numB2 hx, hr, B2.rlen hr (numB2 hx)⟩⟩, hb, HS.out _ (bt h.2.2 hb)⟩))
      have K2 : Hid (∀ w' x s A n c, S w' → x.natAbs < B2 240 ∧ RN w' s A n c x ∧ n ≤ 240 → Calls Try.prog 26 #[.agg #[.bool s, .slice A n c], .agg #[.bool s1, .slice A1 n1 c1]] w' fun e w'' => (∃ s A n c, e = .returned (.agg #[.bool s, .slice A n c]) ∧ Hid (RN w'' s A n c (x * v))) ∧ Below w'.heap.size w' w'' ∧ S w'') :=
        Lib.hid (fun w' x s A n c h hx => (mul_any x v s s1 A A1 n c n1 c1 w' hx.2.1 (HR1_2.out.new h.2.2) (by have := hx.2.2; omega) (by omega)).mono (fun e w'' ⟨s, A, n, c, he, hr, hb⟩ => ⟨⟨s, A, n, c, he, Lib.hid hr⟩, hb, HS.out _ (bt h.2.2 hb)⟩))
      have bR := HS.out _ (Below.refl x2.heap.size x2).drew
      go_region_held3 (fun w' => w'.cell? ⟨w1.heap.size, 0, none⟩ = some (.bool s1) ∧ w'.cell? ⟨w1.heap.size, 1, none⟩ = some (.slice A1 n1 c1) ∧ Below x2.heap.size x2 w') (first | assumption | exact bR | exact HSA.out _ _ (by assumption) | exact HSS.out _ _ _ _ (by assumption) (Nat.le_refl _) | exact HSS.out _ _ _ _ (by assumption) (hle5.out) | exact HSS.out _ _ _ _ (by assumption) (hle6.out) | go_keep)
        (first | (go_at_call 11; refine (K1.out _ ?_).mono ?_; assumption; rintro e w5 ⟨⟨x, s5, A5, n5, c5, rfl, hr5⟩, hk5, hc5⟩; have hle5 := Lib.hid hc5.2.2.size) | (go_at_call 26; refine (K2.out _ x s5 A5 n5 c5 ?_ ?_).mono ?_; assumption; (first | exact hr5.out | exact ⟨hr5.out.1, hr5.out.2.1.new ((Below.refl _ _).alloc (Nat.le_refl _) _), hr5.out.2.2⟩); rintro e w6 ⟨⟨s6, A6, n6, c6, rfl, hr6⟩, hk6, hc6⟩; have hle6 := Lib.hid hc6.2.2.size; (first | (have HPZ := Lib.hid ((P2.lit w5 25 (.bool false) (.slice none 0 0)).new hk6); obtain ⟨z0, z1⟩ := HPZ.out.cells; have y0 := HPZ.out.frozen 0; have y1 := HPZ.out.frozen 1) | (have HPZ := Lib.hid (show P2 25 w6 x2.heap.size (.bool false) (.slice none 0 0) from ((P2.lit x2.drew 25 (.bool false) (.slice none 0 0)).new hk5).new hk6); obtain ⟨z0, z1⟩ := HPZ.out.cells; have y0 := HPZ.out.frozen 0; have y1 := HPZ.out.frozen 1) | skip)))
      all_goals
        rename_i hlast
        have HLB := Lib.hid hlast.2.2
        clear hlast
        go_wp2_with fail
        go_meet
        first
          | exact ⟨x, w6.heap.size, s6, A6, n6, c6, rfl, hr5.out.1, P2.lit _ _ _ _, hr6.out.new ((Below.refl _ _).alloc (Nat.le_refl _) _), HLB.out⟩
          | exact ⟨x, w5.heap.size, s6, A6, n6, c6, rfl, hr5.out.1, HPZ.out.all _ _, hr6.out.box HPZ.out rfl rfl _ _, HLB.out⟩
          | exact ⟨x, x2.heap.size, s6, A6, n6, c6, rfl, hr5.out.1, HPZ.out.all _ _, hr6.out.box HPZ.out rfl rfl _ _, HLB.out⟩
    case rest =>
      obtain ⟨y, G3, s3, A3, n3, c3, rfl, hx3, hq3, hr3, hb3⟩ := hcut
      have HB3 := Lib.hid hb3
      have HQ3 := Lib.hid hq3
      have HR3 := Lib.hid hr3
      have HXy := Lib.hid hx3
      have HMy := Lib.hid (B2.mul hx3 HXv.out)
      have hn3 : n3 ≤ 240 + 240 := B2.rlen hr3 HMy.out
      clear hx3 hq3 hr3 hb3
      obtain ⟨x3, rfl⟩ := nm_world HB3.out
      have HQ1_3 := Lib.hid (HQ1_2.out.new HB3.out)
      have HR1_3 := Lib.hid (HR1_2.out.new HB3.out)
      have HQ2_3 := Lib.hid (HQ2.out.new HB3.out)
      have HR2_3 := Lib.hid (HR2.out.new HB3.out)
      have HG_3 := Lib.hid (HG_2.out.new HB3.out)
      have HW_3 := Lib.hid (bt HW_2.out HB3.out)
      clear HQ1_2 HR1_2 HQ2 HR2 HG_2 HW_2 HB3
      clear HR1_3 HQ1_3
      clear HG_3
      obtain ⟨a2_4, b2_4⟩ := HQ2_3.out.cells
      go_wp2_with fail
      refine (wider_any (x * v) s2 A2 n2 c2 x3 HR2_3.out (by omega) (B2.lim HMx.out (by decide))).mono ?_
      rintro e w4 ⟨s4, A4, n4, c4, rfl, hr4, hb4⟩
      obtain ⟨x4, hx4⟩ : ∃ z, w4.alloc (.cells #[.bool s4, .slice A4 n4 c4] 33) = z := ⟨_, rfl⟩
      have HB4 := Lib.hid (show Below x3.heap.size x3 x4 by rw [← hx4]; exact hb4.alloc hb4.size _)
      have HQ4 := Lib.hid (show P2 33 x4 w4.heap.size (.bool s4) (.slice A4 n4 c4) by rw [← hx4]; exact P2.lit _ _ _ _)
      have HR4 := Lib.hid (show PI x4 s4 A4 n4 c4 (x * v) by rw [← hx4]; exact PIo.new hr4 ((Below.refl _ _).alloc (Nat.le_refl _) _))
      have hn4 : n4 ≤ 240 + 240 := B2.plen hr4 HMx.out
      clear hr4 hb4
      have HQ2_4 := Lib.hid (HQ2_3.out.new HB4.out)
      have HR2_4 := Lib.hid (HR2_3.out.new HB4.out)
      have HQ3_4 := Lib.hid (HQ3.out.new HB4.out)
      have HR3_4 := Lib.hid (HR3.out.new HB4.out)
      have HW_4 := Lib.hid (bt HW_3.out HB4.out)
      clear HQ2_3 HR2_3 HQ3 HR3 HW_3 a2_4 b2_4 HB4
      obtain ⟨a3_5, b3_5⟩ := HQ3_4.out.cells
      go_wp2_with fail
      refine (wider_any (y * v) s3 A3 n3 c3 x4 HR3_4.out (by omega) (B2.lim HMy.out (by decide))).mono ?_
      rintro e w5 ⟨s5, A5, n5, c5, rfl, hr5, hb5⟩
      obtain ⟨x5, hx5⟩ : ∃ z, w5.alloc (.cells #[.bool s5, .slice A5 n5 c5] 33) = z := ⟨_, rfl⟩
      have HB5 := Lib.hid (show Below x4.heap.size x4 x5 by rw [← hx5]; exact hb5.alloc hb5.size _)
      have HQ5 := Lib.hid (show P2 33 x5 w5.heap.size (.bool s5) (.slice A5 n5 c5) by rw [← hx5]; exact P2.lit _ _ _ _)
      have HR5 := Lib.hid (show PI x5 s5 A5 n5 c5 (y * v) by rw [← hx5]; exact PIo.new hr5 ((Below.refl _ _).alloc (Nat.le_refl _) _))
      have hn5 : n5 ≤ 240 + 240 := B2.plen hr5 HMy.out
      clear hr5 hb5
      have HQ2_5 := Lib.hid (HQ2_4.out.new HB5.out)
      have HR2_5 := Lib.hid (HR2_4.out.new HB5.out)
      have HQ3_5 := Lib.hid (HQ3_4.out.new HB5.out)
      have HR3_5 := Lib.hid (HR3_4.out.new HB5.out)
      have HQ4_5 := Lib.hid (HQ4.out.new HB5.out)
      have HR4_5 := Lib.hid (PIo.new HR4.out HB5.out)
      have HW_5 := Lib.hid (bt HW_4.out HB5.out)
      clear HQ2_4 HR2_4 HQ3_4 HR3_4 HQ4 HR4 HW_4 hx4 a3_5 b3_5 HB5
      obtain ⟨D, hD⟩ : ∃ D, Nat.gcd (x * v).natAbs (y * v).natAbs = D := ⟨_, rfl⟩
      have HD := Lib.hid hD
      have HDB := Lib.hid (show (D : Int).natAbs < B2 (240 + 240) from gcd_bd hD HMx.out HMy.out)
      clear hD
      obtain ⟨a4_6, b4_6⟩ := HQ4_5.out.cells
      obtain ⟨a5_6, b5_6⟩ := HQ5.out.cells
      go_wp2_with fail
      refine (pgcd_any (x * v) (y * v) s4 s5 A4 A5 n4 c4 n5 c5 x5 HR4_5.out HR5.out (by omega) (by omega)).mono ?_
      rw [HD.out]
      rintro e w6 ⟨s6, A6, n6, c6, rfl, hr6, hb6⟩
      obtain ⟨x6, hx6⟩ : ∃ z, w6.alloc (.cells #[.bool s6, .slice A6 n6 c6] 33) = z := ⟨_, rfl⟩
      have HB6 := Lib.hid (show Below x5.heap.size x5 x6 by rw [← hx6]; exact hb6.alloc hb6.size _)
      have HQ6 := Lib.hid (show P2 33 x6 w6.heap.size (.bool s6) (.slice A6 n6 c6) by rw [← hx6]; exact P2.lit _ _ _ _)
      have HR6 := Lib.hid (show PI x6 s6 A6 n6 c6 ((D : Int)) by rw [← hx6]; exact PIo.new hr6 ((Below.refl _ _).alloc (Nat.le_refl _) _))
      have hn6 : n6 ≤ 240 + 240 := B2.plen hr6 HDB.out
      clear hr6 hb6
      have HQ2_6 := Lib.hid (HQ2_5.out.new HB6.out)
      have HR2_6 := Lib.hid (HR2_5.out.new HB6.out)
      have HQ3_6 := Lib.hid (HQ3_5.out.new HB6.out)
      have HR3_6 := Lib.hid (HR3_5.out.new HB6.out)
      have HQ4_6 := Lib.hid (HQ4_5.out.new HB6.out)
      have HR4_6 := Lib.hid (PIo.new HR4_5.out HB6.out)
      have HQ5_6 := Lib.hid (HQ5.out.new HB6.out)
      have HR5_6 := Lib.hid (PIo.new HR5.out HB6.out)
      have HW_6 := Lib.hid (bt HW_5.out HB6.out)
      clear HQ2_5 HR2_5 HQ3_5 HR3_5 HQ4_5 HR4_5 HQ5 HR5 HW_5 hx5 a4_6 b4_6 a5_6 b5_6 HB6
      let S7 := fun w' : World => w'.cell? ⟨w6.heap.size, 0, none⟩ = some (.bool s6) ∧ w'.cell? ⟨w6.heap.size, 1, none⟩ = some (.slice A6 n6 c6) ∧ w'.cell? ⟨G2, 0, none⟩ = some (.bool s2) ∧ w'.cell? ⟨G2, 1, none⟩ = some (.slice A2 n2 c2) ∧ w'.cell? ⟨G3, 0, none⟩ = some (.bool s3) ∧ w'.cell? ⟨G3, 1, none⟩ = some (.slice A3 n3 c3) ∧ Below x6.heap.size x6 w'
      have hS7 : ∀ w', Below x6.heap.size x6 w' → S7 w' := fun w' hb => ⟨(HQ6.out.new hb).cells.1, (HQ6.out.new hb).cells.2, (HQ2_6.out.new hb).cells.1, (HQ2_6.out.new hb).cells.2, (HQ3_6.out.new hb).cells.1, (HQ3_6.out.new hb).cells.2, hb⟩
      have K7_0 : Hid (∀ w', S7 w' → Calls Try.prog 36 #[.agg #[.bool s2, .slice A2 n2 c2], .agg #[.bool s3, .slice A3 n3 c3]] w' fun e w'' => (∃ s A n c, e = .returned (.agg #[.bool s, .slice A n c]) ∧ Hid (RN w'' s A n c (D : Int) ∧ n ≤ 240 + 240)) ∧ S7 w'') :=
        Lib.hid (fun w' h => (rgcd_any (x * v) (y * v) s2 s3 A2 A3 n2 c2 n3 c3 w' (HR2_6.out.new h.2.2.2.2.2.2) (HR3_6.out.new h.2.2.2.2.2.2) (by omega) (by omega)).mono (fun e w'' ⟨s, A, n, c, he, hr, hb⟩ => by rw [HD.out] at hr; exact ⟨⟨s, A, n, c, he, Lib.hid ⟨hr, B2.rlen hr HDB.out⟩⟩, hS7 _ (bt h.2.2.2.2.2.2 hb)⟩))
      have K7_1 : Hid (∀ w' s A n c, S7 w' → Hid (RN w' s A n c (D : Int) ∧ n ≤ 240 + 240) → Calls Try.prog 16 #[.agg #[.bool s6, .slice A6 n6 c6], .agg #[.bool s, .slice A n c]] w' fun e w'' => e = .returned (.bool true) ∧ S7 w'') :=
        Lib.hid (fun w' s A n c h hr => (equal_any (D : Int) (D : Int) s6 s A6 A n6 c6 n c w' (PIo.new HR6.out h.2.2.2.2.2.2) hr.out.1 (by omega) (by have := hr.out.2; omega)).mono (fun e w'' ⟨he, hb⟩ => ⟨by rw [he, eqB_self], hS7 _ (bt h.2.2.2.2.2.2 hb)⟩))
      have bR7 := hS7 _ (Below.refl x6.heap.size x6).drew
      clear hS7
      go_wp2_with fail
      go_region_held3 (fun w' => w'.cell? ⟨w6.heap.size, 0, none⟩ = some (.bool s6) ∧ w'.cell? ⟨w6.heap.size, 1, none⟩ = some (.slice A6 n6 c6) ∧ w'.cell? ⟨G2, 0, none⟩ = some (.bool s2) ∧ w'.cell? ⟨G2, 1, none⟩ = some (.slice A2 n2 c2) ∧ w'.cell? ⟨G3, 0, none⟩ = some (.bool s3) ∧ w'.cell? ⟨G3, 1, none⟩ = some (.slice A3 n3 c3) ∧ Below x6.heap.size x6 w') (first | assumption | exact bR7 | go_keep)
        (first | (go_at_call 36; refine (K7_0.out _ ?_).mono ?_; assumption; rintro e w' ⟨⟨s9, A9, n9, c9, rfl, hr9⟩, hc'⟩) | (go_at_call 16; refine (K7_1.out _ s9 A9 n9 c9 ?_ hr9).mono ?_; assumption; rintro e w' ⟨rfl, hc'⟩))
      rename_i hlast
      have HB7 := Lib.hid (hlast.2.2.2.2.2.2)
      clear hlast
      obtain ⟨x7, rfl⟩ := nm_world HB7.out
      have HQ2_7 := Lib.hid (HQ2_6.out.new HB7.out)
      have HR2_7 := Lib.hid (HR2_6.out.new HB7.out)
      have HQ3_7 := Lib.hid (HQ3_6.out.new HB7.out)
      have HR3_7 := Lib.hid (HR3_6.out.new HB7.out)
      have HQ4_7 := Lib.hid (HQ4_6.out.new HB7.out)
      have HR4_7 := Lib.hid (PIo.new HR4_6.out HB7.out)
      have HQ5_7 := Lib.hid (HQ5_6.out.new HB7.out)
      have HR5_7 := Lib.hid (PIo.new HR5_6.out HB7.out)
      have HQ6_7 := Lib.hid (HQ6.out.new HB7.out)
      have HR6_7 := Lib.hid (PIo.new HR6.out HB7.out)
      have HW_7 := Lib.hid (bt HW_6.out HB7.out)
      clear HQ2_6 HR2_6 HQ3_6 HR3_6 HQ4_6 HR4_6 HQ5_6 HR5_6 HQ6 HR6 HW_6 hx6 HB7
      obtain ⟨a6_8, b6_8⟩ := HQ6_7.out.cells
      go_wp2_with fail
      refine (sign_any (D : Int) s6 A6 n6 c6 x7 HR6_7.out (by omega)).mono ?_
      rintro e w8 ⟨rfl, hb8⟩
      have HB8 := Lib.hid hb8
      clear hb8
      have HQ2_8 := Lib.hid (HQ2_7.out.new HB8.out)
      have HR2_8 := Lib.hid (HR2_7.out.new HB8.out)
      have HQ3_8 := Lib.hid (HQ3_7.out.new HB8.out)
      have HR3_8 := Lib.hid (HR3_7.out.new HB8.out)
      have HQ4_8 := Lib.hid (HQ4_7.out.new HB8.out)
      have HR4_8 := Lib.hid (PIo.new HR4_7.out HB8.out)
      have HQ5_8 := Lib.hid (HQ5_7.out.new HB8.out)
      have HR5_8 := Lib.hid (PIo.new HR5_7.out HB8.out)
      have HQ6_8 := Lib.hid (HQ6_7.out.new HB8.out)
      have HR6_8 := Lib.hid (PIo.new HR6_7.out HB8.out)
      have HW_8 := Lib.hid (bt HW_7.out HB8.out)
      clear HQ2_7 HR2_7 HQ3_7 HR3_7 HQ4_7 HR4_7 HQ5_7 HR5_7 HQ6_7 HR6_7 HW_7 a6_8 b6_8 HB8
      rcases Nat.eq_zero_or_pos D with hD0 | hD0
      · subst hD0
        rw [show cmpI ((0 : Nat) : Int) 0 = 0 from rfl]
        have HZ := Lib.hid (gcd_zero_lens HD.out HR2_8.out HR3_8.out)
        obtain ⟨za, ya⟩ := HQ2_8.out.cells
        obtain ⟨zb, yb⟩ := HQ3_8.out.cells
        rw [HZ.out.1] at ya
        rw [HZ.out.2] at yb
        go_wp2_with fail
        refine (lives_any w8).mono ?_
        rintro e w9 ⟨rfl, hb9⟩
        have HB9 := Lib.hid hb9
        clear hb9
        have HQ2_9 := Lib.hid (HQ2_8.out.new HB9.out)
        have HR2_9 := Lib.hid (HR2_8.out.new HB9.out)
        have HQ3_9 := Lib.hid (HQ3_8.out.new HB9.out)
        have HR3_9 := Lib.hid (HR3_8.out.new HB9.out)
        have HQ4_9 := Lib.hid (HQ4_8.out.new HB9.out)
        have HR4_9 := Lib.hid (PIo.new HR4_8.out HB9.out)
        have HQ5_9 := Lib.hid (HQ5_8.out.new HB9.out)
        have HR5_9 := Lib.hid (PIo.new HR5_8.out HB9.out)
        have HQ6_9 := Lib.hid (HQ6_8.out.new HB9.out)
        have HR6_9 := Lib.hid (PIo.new HR6_8.out HB9.out)
        have HW_9 := Lib.hid (bt HW_8.out HB9.out)
        clear HQ2_8 HR2_8 HQ3_8 HR3_8 HQ4_8 HR4_8 HQ5_8 HR5_8 HQ6_8 HR6_8 HW_8 za ya zb yb HB9
        go_wp2
        go_ret
        exact ⟨rfl, HW_9.out⟩
      · have HD0 := Lib.hid hD0
        have hs1 := cmpI_pos (show (0 : Int) < (D : Int) by omega)
        rw [hs1]
        clear hs1
        have HQA := Lib.hid (gcd_facts HD.out HD0.out)
        obtain ⟨a4_29, b4_29⟩ := HQ4_8.out.cells
        obtain ⟨a6_29, b6_29⟩ := HQ6_8.out.cells
        go_wp2_with fail
        refine (pdiv_any (x * v) (D : Int) s4 s6 A4 A6 n4 c4 n6 c6 w8 HR4_8.out HR6_8.out (by omega) (by omega) (by have := HD0.out; omega)).mono ?_
        rintro e w29 ⟨s29, A29, n29, c29, s29r, A29r, n29r, c29r, rfl, hr29, hr29r, hb29⟩
        obtain ⟨x29, hy29⟩ : ∃ x, W2 33 w29 (.bool s29) (.slice A29 n29 c29) (.bool s29r) (.slice A29r n29r c29r) = x := ⟨_, rfl⟩
        have hx29 : (w29.alloc (.cells #[.bool s29, .slice A29 n29 c29] 33)).alloc (.cells #[.bool s29r, .slice A29r n29r c29r] 33) = x29 := hy29
        have HB29 := Lib.hid (show Below w8.heap.size w8 x29 by rw [← hy29]; exact bt hb29 (W2_k _ _ _ _ _ _))
        have HQ29 := Lib.hid (show P2 33 x29 w29.heap.size (.bool s29) (.slice A29 n29 c29) by rw [← hy29]; exact W2_a _ _ _ _ _ _)
        have HQ29r := Lib.hid (show P2 33 x29 (w29.heap.size + 1) (.bool s29r) (.slice A29r n29r c29r) by rw [← hy29]; exact W2_z _ _ _ _ _ _)
        have HR29 := Lib.hid (show PI x29 s29 A29 n29 c29 (x * v / (D : Int)) by rw [← hy29]; exact PIo.new hr29 (W2_k _ _ _ _ _ _))
        have HR29r := Lib.hid (show PI x29 s29r A29r n29r c29r (x * v % (D : Int)) by rw [← hy29]; exact PIo.new hr29r (W2_k _ _ _ _ _ _))
        have hn29 : n29 ≤ 240 + 240 := B2.plen hr29 (B2.div HMx.out)
        have hn29r : n29r ≤ 240 + 240 := B2.plen hr29r (B2.mod (by have := HD0.out; omega) HDB.out)
        clear hr29 hr29r hb29 hy29
        have HQ2_29 := Lib.hid (HQ2_8.out.new HB29.out)
        have HR2_29 := Lib.hid (HR2_8.out.new HB29.out)
        have HQ3_29 := Lib.hid (HQ3_8.out.new HB29.out)
        have HR3_29 := Lib.hid (HR3_8.out.new HB29.out)
        have HQ4_29 := Lib.hid (HQ4_8.out.new HB29.out)
        have HR4_29 := Lib.hid (PIo.new HR4_8.out HB29.out)
        have HQ5_29 := Lib.hid (HQ5_8.out.new HB29.out)
        have HR5_29 := Lib.hid (PIo.new HR5_8.out HB29.out)
        have HQ6_29 := Lib.hid (HQ6_8.out.new HB29.out)
        have HR6_29 := Lib.hid (PIo.new HR6_8.out HB29.out)
        have HW_29 := Lib.hid (bt HW_8.out HB29.out)
        clear HQ2_8 HR2_8 HQ3_8 HR3_8 HQ4_8 HR4_8 HQ5_8 HR5_8 HQ6_8 HR6_8 HW_8 a4_29 b4_29 a6_29 b6_29 HB29
        obtain ⟨a5_30, b5_30⟩ := HQ5_29.out.cells
        obtain ⟨a6_30, b6_30⟩ := HQ6_29.out.cells
        go_wp2_with fail
        refine (pdiv_any (y * v) (D : Int) s5 s6 A5 A6 n5 c5 n6 c6 x29 HR5_29.out HR6_29.out (by omega) (by omega) (by have := HD0.out; omega)).mono ?_
        rintro e w30 ⟨s30, A30, n30, c30, s30r, A30r, n30r, c30r, rfl, hr30, hr30r, hb30⟩
        obtain ⟨x30, hy30⟩ : ∃ x, W2 33 w30 (.bool s30) (.slice A30 n30 c30) (.bool s30r) (.slice A30r n30r c30r) = x := ⟨_, rfl⟩
        have hx30 : (w30.alloc (.cells #[.bool s30, .slice A30 n30 c30] 33)).alloc (.cells #[.bool s30r, .slice A30r n30r c30r] 33) = x30 := hy30
        have HB30 := Lib.hid (show Below x29.heap.size x29 x30 by rw [← hy30]; exact bt hb30 (W2_k _ _ _ _ _ _))
        have HQ30 := Lib.hid (show P2 33 x30 w30.heap.size (.bool s30) (.slice A30 n30 c30) by rw [← hy30]; exact W2_a _ _ _ _ _ _)
        have HQ30r := Lib.hid (show P2 33 x30 (w30.heap.size + 1) (.bool s30r) (.slice A30r n30r c30r) by rw [← hy30]; exact W2_z _ _ _ _ _ _)
        have HR30 := Lib.hid (show PI x30 s30 A30 n30 c30 (y * v / (D : Int)) by rw [← hy30]; exact PIo.new hr30 (W2_k _ _ _ _ _ _))
        have HR30r := Lib.hid (show PI x30 s30r A30r n30r c30r (y * v % (D : Int)) by rw [← hy30]; exact PIo.new hr30r (W2_k _ _ _ _ _ _))
        have hn30 : n30 ≤ 240 + 240 := B2.plen hr30 (B2.div HMy.out)
        have hn30r : n30r ≤ 240 + 240 := B2.plen hr30r (B2.mod (by have := HD0.out; omega) HDB.out)
        clear hr30 hr30r hb30 hy30
        have HQ2_30 := Lib.hid (HQ2_29.out.new HB30.out)
        have HR2_30 := Lib.hid (HR2_29.out.new HB30.out)
        have HQ3_30 := Lib.hid (HQ3_29.out.new HB30.out)
        have HR3_30 := Lib.hid (HR3_29.out.new HB30.out)
        have HQ4_30 := Lib.hid (HQ4_29.out.new HB30.out)
        have HR4_30 := Lib.hid (PIo.new HR4_29.out HB30.out)
        have HQ5_30 := Lib.hid (HQ5_29.out.new HB30.out)
        have HR5_30 := Lib.hid (PIo.new HR5_29.out HB30.out)
        have HQ6_30 := Lib.hid (HQ6_29.out.new HB30.out)
        have HR6_30 := Lib.hid (PIo.new HR6_29.out HB30.out)
        have HQ29_30 := Lib.hid (HQ29.out.new HB30.out)
        have HR29_30 := Lib.hid (PIo.new HR29.out HB30.out)
        have HQ29r_30 := Lib.hid (HQ29r.out.new HB30.out)
        have HR29r_30 := Lib.hid (PIo.new HR29r.out HB30.out)
        have HW_30 := Lib.hid (bt HW_29.out HB30.out)
        clear HQ2_29 HR2_29 HQ3_29 HR3_29 HQ4_29 HR4_29 HQ5_29 HR5_29 HQ6_29 HR6_29 HQ29 HR29 HQ29r HR29r HW_29 hx29 a5_30 b5_30 a6_30 b6_30 HB30
        obtain ⟨a29r_31, b29r_31⟩ := HQ29r_30.out.cells
        go_wp2_with fail
        refine (sign_any (x * v % (D : Int)) s29r A29r n29r c29r x30 HR29r_30.out (by omega)).mono ?_
        rw [HQA.out.1, show cmpI 0 0 = 0 from rfl]
        rintro e w31 ⟨rfl, hb31⟩
        have HB31 := Lib.hid hb31
        clear hb31
        have HQ2_31 := Lib.hid (HQ2_30.out.new HB31.out)
        have HR2_31 := Lib.hid (HR2_30.out.new HB31.out)
        have HQ3_31 := Lib.hid (HQ3_30.out.new HB31.out)
        have HR3_31 := Lib.hid (HR3_30.out.new HB31.out)
        have HQ4_31 := Lib.hid (HQ4_30.out.new HB31.out)
        have HR4_31 := Lib.hid (PIo.new HR4_30.out HB31.out)
        have HQ5_31 := Lib.hid (HQ5_30.out.new HB31.out)
        have HR5_31 := Lib.hid (PIo.new HR5_30.out HB31.out)
        have HQ6_31 := Lib.hid (HQ6_30.out.new HB31.out)
        have HR6_31 := Lib.hid (PIo.new HR6_30.out HB31.out)
        have HQ29_31 := Lib.hid (HQ29_30.out.new HB31.out)
        have HR29_31 := Lib.hid (PIo.new HR29_30.out HB31.out)
        have HQ29r_31 := Lib.hid (HQ29r_30.out.new HB31.out)
        have HR29r_31 := Lib.hid (PIo.new HR29r_30.out HB31.out)
        have HQ30_31 := Lib.hid (HQ30.out.new HB31.out)
        have HR30_31 := Lib.hid (PIo.new HR30.out HB31.out)
        have HQ30r_31 := Lib.hid (HQ30r.out.new HB31.out)
        have HR30r_31 := Lib.hid (PIo.new HR30r.out HB31.out)
        have HW_31 := Lib.hid (bt HW_30.out HB31.out)
        clear HQ2_30 HR2_30 HQ3_30 HR3_30 HQ4_30 HR4_30 HQ5_30 HR5_30 HQ6_30 HR6_30 HQ29_30 HR29_30 HQ29r_30 HR29r_30 HQ30 HR30 HQ30r HR30r HW_30 hx30 a29r_31 b29r_31 HB31
        obtain ⟨a30r_32, b30r_32⟩ := HQ30r_31.out.cells
        go_wp2_with fail
        refine (sign_any (y * v % (D : Int)) s30r A30r n30r c30r w31 HR30r_31.out (by omega)).mono ?_
        rw [HQA.out.2.1, show cmpI 0 0 = 0 from rfl]
        rintro e w32 ⟨rfl, hb32⟩
        have HB32 := Lib.hid hb32
        clear hb32
        have HQ2_32 := Lib.hid (HQ2_31.out.new HB32.out)
        have HR2_32 := Lib.hid (HR2_31.out.new HB32.out)
        have HQ3_32 := Lib.hid (HQ3_31.out.new HB32.out)
        have HR3_32 := Lib.hid (HR3_31.out.new HB32.out)
        have HQ4_32 := Lib.hid (HQ4_31.out.new HB32.out)
        have HR4_32 := Lib.hid (PIo.new HR4_31.out HB32.out)
        have HQ5_32 := Lib.hid (HQ5_31.out.new HB32.out)
        have HR5_32 := Lib.hid (PIo.new HR5_31.out HB32.out)
        have HQ6_32 := Lib.hid (HQ6_31.out.new HB32.out)
        have HR6_32 := Lib.hid (PIo.new HR6_31.out HB32.out)
        have HQ29_32 := Lib.hid (HQ29_31.out.new HB32.out)
        have HR29_32 := Lib.hid (PIo.new HR29_31.out HB32.out)
        have HQ29r_32 := Lib.hid (HQ29r_31.out.new HB32.out)
        have HR29r_32 := Lib.hid (PIo.new HR29r_31.out HB32.out)
        have HQ30_32 := Lib.hid (HQ30_31.out.new HB32.out)
        have HR30_32 := Lib.hid (PIo.new HR30_31.out HB32.out)
        have HQ30r_32 := Lib.hid (HQ30r_31.out.new HB32.out)
        have HR30r_32 := Lib.hid (PIo.new HR30r_31.out HB32.out)
        have HW_32 := Lib.hid (bt HW_31.out HB32.out)
        clear HQ2_31 HR2_31 HQ3_31 HR3_31 HQ4_31 HR4_31 HQ5_31 HR5_31 HQ6_31 HR6_31 HQ29_31 HR29_31 HQ29r_31 HR29r_31 HQ30_31 HR30_31 HQ30r_31 HR30r_31 HW_31 a30r_32 b30r_32 HB32
        obtain ⟨a29_33, b29_33⟩ := HQ29_32.out.cells
        obtain ⟨a30_33, b30_33⟩ := HQ30_32.out.cells
        go_wp2_with fail
        refine (pgcd_any (x * v / (D : Int)) (y * v / (D : Int)) s29 s30 A29 A30 n29 c29 n30 c30 w32 HR29_32.out HR30_32.out (by omega) (by omega)).mono ?_
        rw [HQA.out.2.2]
        rintro e w33 ⟨s33, A33, n33, c33, rfl, hr33, hb33⟩
        have HB33 := Lib.hid hb33
        have HR33 := Lib.hid hr33
        have hn33 : n33 ≤ 100000 := small_len hr33 (by decide)
        clear hr33 hb33
        have HQ2_33 := Lib.hid (HQ2_32.out.new HB33.out)
        have HR2_33 := Lib.hid (HR2_32.out.new HB33.out)
        have HQ3_33 := Lib.hid (HQ3_32.out.new HB33.out)
        have HR3_33 := Lib.hid (HR3_32.out.new HB33.out)
        have HQ4_33 := Lib.hid (HQ4_32.out.new HB33.out)
        have HR4_33 := Lib.hid (PIo.new HR4_32.out HB33.out)
        have HQ5_33 := Lib.hid (HQ5_32.out.new HB33.out)
        have HR5_33 := Lib.hid (PIo.new HR5_32.out HB33.out)
        have HQ6_33 := Lib.hid (HQ6_32.out.new HB33.out)
        have HR6_33 := Lib.hid (PIo.new HR6_32.out HB33.out)
        have HQ29_33 := Lib.hid (HQ29_32.out.new HB33.out)
        have HR29_33 := Lib.hid (PIo.new HR29_32.out HB33.out)
        have HQ29r_33 := Lib.hid (HQ29r_32.out.new HB33.out)
        have HR29r_33 := Lib.hid (PIo.new HR29r_32.out HB33.out)
        have HQ30_33 := Lib.hid (HQ30_32.out.new HB33.out)
        have HR30_33 := Lib.hid (PIo.new HR30_32.out HB33.out)
        have HQ30r_33 := Lib.hid (HQ30r_32.out.new HB33.out)
        have HR30r_33 := Lib.hid (PIo.new HR30r_32.out HB33.out)
        have HW_33 := Lib.hid (bt HW_32.out HB33.out)
        clear HQ2_32 HR2_32 HQ3_32 HR3_32 HQ4_32 HR4_32 HQ5_32 HR5_32 HQ6_32 HR6_32 HQ29_32 HR29_32 HQ29r_32 HR29r_32 HQ30_32 HR30_32 HQ30r_32 HR30r_32 HW_32 a29_33 b29_33 a30_33 b30_33 HB33
        go_wp2_with fail
        refine (from_any 1 w33 (by decide)).mono ?_
        rintro e w34 ⟨s34, A34, n34, c34, rfl, hr34, hb34⟩
        have HB34 := Lib.hid hb34
        have HR34 := Lib.hid hr34
        have hn34 : n34 ≤ 100000 := small_len hr34 (by decide)
        clear hr34 hb34
        have HQ2_34 := Lib.hid (HQ2_33.out.new HB34.out)
        have HR2_34 := Lib.hid (HR2_33.out.new HB34.out)
        have HQ3_34 := Lib.hid (HQ3_33.out.new HB34.out)
        have HR3_34 := Lib.hid (HR3_33.out.new HB34.out)
        have HQ4_34 := Lib.hid (HQ4_33.out.new HB34.out)
        have HR4_34 := Lib.hid (PIo.new HR4_33.out HB34.out)
        have HQ5_34 := Lib.hid (HQ5_33.out.new HB34.out)
        have HR5_34 := Lib.hid (PIo.new HR5_33.out HB34.out)
        have HQ6_34 := Lib.hid (HQ6_33.out.new HB34.out)
        have HR6_34 := Lib.hid (PIo.new HR6_33.out HB34.out)
        have HQ29_34 := Lib.hid (HQ29_33.out.new HB34.out)
        have HR29_34 := Lib.hid (PIo.new HR29_33.out HB34.out)
        have HQ29r_34 := Lib.hid (HQ29r_33.out.new HB34.out)
        have HR29r_34 := Lib.hid (PIo.new HR29r_33.out HB34.out)
        have HQ30_34 := Lib.hid (HQ30_33.out.new HB34.out)
        have HR30_34 := Lib.hid (PIo.new HR30_33.out HB34.out)
        have HQ30r_34 := Lib.hid (HQ30r_33.out.new HB34.out)
        have HR30r_34 := Lib.hid (PIo.new HR30r_33.out HB34.out)
        have HR33_34 := Lib.hid (PIo.new HR33.out HB34.out)
        have HW_34 := Lib.hid (bt HW_33.out HB34.out)
        clear HQ2_33 HR2_33 HQ3_33 HR3_33 HQ4_33 HR4_33 HQ5_33 HR5_33 HQ6_33 HR6_33 HQ29_33 HR29_33 HQ29r_33 HR29r_33 HQ30_33 HR30_33 HQ30r_33 HR30r_33 HR33 HW_33 HB34
        go_wp2_with fail
        refine (pcompare_any ((1 : Nat) : Int) 1 s33 s34 A33 A34 n33 c33 n34 c34 w34 HR33_34.out HR34.out (by omega) (by omega)).mono ?_
        rw [show cmpI ((1 : Nat) : Int) 1 = 0 from rfl]
        rintro e w35 ⟨rfl, hb35⟩
        have HB35 := Lib.hid hb35
        clear hb35
        have HQ2_35 := Lib.hid (HQ2_34.out.new HB35.out)
        have HR2_35 := Lib.hid (HR2_34.out.new HB35.out)
        have HQ3_35 := Lib.hid (HQ3_34.out.new HB35.out)
        have HR3_35 := Lib.hid (HR3_34.out.new HB35.out)
        have HQ4_35 := Lib.hid (HQ4_34.out.new HB35.out)
        have HR4_35 := Lib.hid (PIo.new HR4_34.out HB35.out)
        have HQ5_35 := Lib.hid (HQ5_34.out.new HB35.out)
        have HR5_35 := Lib.hid (PIo.new HR5_34.out HB35.out)
        have HQ6_35 := Lib.hid (HQ6_34.out.new HB35.out)
        have HR6_35 := Lib.hid (PIo.new HR6_34.out HB35.out)
        have HQ29_35 := Lib.hid (HQ29_34.out.new HB35.out)
        have HR29_35 := Lib.hid (PIo.new HR29_34.out HB35.out)
        have HQ29r_35 := Lib.hid (HQ29r_34.out.new HB35.out)
        have HR29r_35 := Lib.hid (PIo.new HR29r_34.out HB35.out)
        have HQ30_35 := Lib.hid (HQ30_34.out.new HB35.out)
        have HR30_35 := Lib.hid (PIo.new HR30_34.out HB35.out)
        have HQ30r_35 := Lib.hid (HQ30r_34.out.new HB35.out)
        have HR30r_35 := Lib.hid (PIo.new HR30r_34.out HB35.out)
        have HR33_35 := Lib.hid (PIo.new HR33_34.out HB35.out)
        have HR34_35 := Lib.hid (PIo.new HR34.out HB35.out)
        have HW_35 := Lib.hid (bt HW_34.out HB35.out)
        clear HQ2_34 HR2_34 HQ3_34 HR3_34 HQ4_34 HR4_34 HQ5_34 HR5_34 HQ6_34 HR6_34 HQ29_34 HR29_34 HQ29r_34 HR29r_34 HQ30_34 HR30_34 HQ30r_34 HR30r_34 HR33_34 HR34 HW_34 HB35
        go_wp2_with fail
        refine (lives_any w35).mono ?_
        rintro e w36 ⟨rfl, hb36⟩
        have HB36 := Lib.hid hb36
        clear hb36
        have HQ2_36 := Lib.hid (HQ2_35.out.new HB36.out)
        have HR2_36 := Lib.hid (HR2_35.out.new HB36.out)
        have HQ3_36 := Lib.hid (HQ3_35.out.new HB36.out)
        have HR3_36 := Lib.hid (HR3_35.out.new HB36.out)
        have HQ4_36 := Lib.hid (HQ4_35.out.new HB36.out)
        have HR4_36 := Lib.hid (PIo.new HR4_35.out HB36.out)
        have HQ5_36 := Lib.hid (HQ5_35.out.new HB36.out)
        have HR5_36 := Lib.hid (PIo.new HR5_35.out HB36.out)
        have HQ6_36 := Lib.hid (HQ6_35.out.new HB36.out)
        have HR6_36 := Lib.hid (PIo.new HR6_35.out HB36.out)
        have HQ29_36 := Lib.hid (HQ29_35.out.new HB36.out)
        have HR29_36 := Lib.hid (PIo.new HR29_35.out HB36.out)
        have HQ29r_36 := Lib.hid (HQ29r_35.out.new HB36.out)
        have HR29r_36 := Lib.hid (PIo.new HR29r_35.out HB36.out)
        have HQ30_36 := Lib.hid (HQ30_35.out.new HB36.out)
        have HR30_36 := Lib.hid (PIo.new HR30_35.out HB36.out)
        have HQ30r_36 := Lib.hid (HQ30r_35.out.new HB36.out)
        have HR30r_36 := Lib.hid (PIo.new HR30r_35.out HB36.out)
        have HR33_36 := Lib.hid (PIo.new HR33_35.out HB36.out)
        have HR34_36 := Lib.hid (PIo.new HR34_35.out HB36.out)
        have HW_36 := Lib.hid (bt HW_35.out HB36.out)
        clear HQ2_35 HR2_35 HQ3_35 HR3_35 HQ4_35 HR4_35 HQ5_35 HR5_35 HQ6_35 HR6_35 HQ29_35 HR29_35 HQ29r_35 HR29r_35 HQ30_35 HR30_35 HQ30r_35 HR30r_35 HR33_35 HR34_35 HW_35 HB36
        go_wp2
        go_ret
        exact ⟨rfl, HW_36.out⟩
theorem wideDivisors_law (a0 : Option Addr) (len0 cap0 : Nat) (z0 : List Int) (w : World) (w0 : RowI .i64 w a0 len0 cap0 z0) :
    Calls Try.prog 7 #[.slice a0 len0 cap0] w fun e w' => e = .returned (.bool true) ∧ Below w.heap.size w w' := by
  obtain ⟨ls, h1, h2, h3, h4⟩ := w0.open_
  exact wideDivisors_walk ls a0 len0 cap0 w ⟨h4, by rw [h1]; exact h2, h3⟩
end Go.Proofs.Ytpcliampffeknaa
