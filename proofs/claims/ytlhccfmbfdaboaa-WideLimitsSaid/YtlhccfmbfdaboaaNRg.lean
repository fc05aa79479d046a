/- Contracts of the reference's Fits, Near, Small. -/
import Derived.Test.YtlhccfmbfdaboaaB7
namespace Go.Proofs.Ytlhccfmbfdaboaa
open Go.RowKit
attribute [local go_sem ↓] Go.wp_at_zero Go.wp_at_succ
theorem power_lit (E : Nat) (z : Int) (w : World) (hz : z = (E : Int)) (hE : E ≤ 20000) :
    Calls Try.prog 63 #[.int .i64 z] w (RetN ((2 ^ E : Nat) : Int) w) := by
  subst hz
  exact power_any E w hE
theorem digs_1229 : (10000 : Nat) ^ 10 ≤ 2 ^ 133 := by decide
theorem pow_gen {A a b q K E : Nat} (hA : A ^ a ≤ 2 ^ b) (h0 : 0 < A) (hK : K ≤ a * q) (hE : b * q ≤ E) : A ^ K ≤ 2 ^ E := by
  have h1 : (A ^ a) ^ q ≤ (2 ^ b) ^ q := Nat.pow_le_pow_left hA q
  rw [← Nat.pow_mul, ← Nat.pow_mul] at h1
  exact Nat.le_trans (Nat.pow_le_pow_right h0 hK) (Nat.le_trans h1 (Nat.pow_le_pow_right (by decide) hE))
theorem pow_1230 (K E : Nat) (hK : K ≤ 10 * 123) (h : 133 * 123 ≤ E) : (10000 : Nat) ^ K ≤ 2 ^ E := pow_gen digs_1229 (by decide) hK h
set_option maxRecDepth 100000 in
set_option maxHeartbeats 1600000 in
theorem fits_any (x : Int) (s : Bool) (A : Option Addr) (n c : Nat) (w : World) (hx : RN w s A n c x) (hn : n ≤ 900000) :
    Calls Try.prog 30 #[.agg #[.bool s, .slice A n c]] w fun e w' => e = .returned (.bool (decide (x.natAbs < lim))) ∧ Below w.heap.size w w' := by
  have HL := Lib.hid hx.2.2
  have HN := Lib.hid hx.2.1
  clear hx
  obtain ⟨E, hE0⟩ : ∃ E : Nat, 32 * limE = E := ⟨_, rfl⟩
  have hlim : lim = 2 ^ E := by rw [lim_two, hE0]
  have hE : E = 16384 := by rw [← hE0]; rfl
  clear hE0
  have HE := Lib.hid hE
  obtain ⟨W, hW⟩ : ∃ W, w.alloc (.cells #[.bool s, .slice A n c] 24) = W := ⟨_, rfl⟩
  have HK := Lib.hid (show Below w.heap.size w W by rw [← hW]; exact (Below.refl _ w).alloc (Nat.le_refl _) _)
  have HP := Lib.hid (show P2 24 W w.heap.size (.bool s) (.slice A n c) by rw [← hW]; exact P2.lit _ _ _ _)
  obtain ⟨a0, a1⟩ := HP.out.cells
  by_cases hs : n < 1230
  · have HT := Lib.hid (show decide (x.natAbs < lim) = true by
      rw [decide_eq_true_iff, hlim]
      have h1 := digs_lt (B := 10000) (by decide) x.natAbs
      rw [HN.out] at h1
      exact Nat.lt_of_lt_of_le h1 (pow_1230 n E (by omega) (by omega)))
    clear hlim hE
    go_enter Try.func30, Try.ntmps30
    go_wp2
    go_ret
    exact ⟨by rw [HT.out]; rfl, HK.out⟩
  · have HC := Lib.hid hlim
    clear hlim
    go_enter Try.func30, Try.ntmps30
    go_wp2_with fail
    refine (power_lit E _ W (by rw [HE.out]; rfl) (by omega)).mono ?_
    rintro e w1 ⟨s1, A1, n1, c1, rfl, hr1, hb1⟩
    have hn1 : n1 ≤ E + 1 := rn_len hr1 (by rw [Int.natAbs_natCast]; exact Nat.pow_lt_pow_right (by decide) (by omega))
    obtain ⟨x1, hx1⟩ : ∃ z, w1.alloc (.cells #[.bool s1, .slice A1 n1 c1] 24) = z := ⟨_, rfl⟩
    have HB1 := Lib.hid (show Below W.heap.size W x1 by rw [← hx1]; exact hb1.alloc hb1.size _)
    have HQ1 := Lib.hid (show P2 24 x1 w1.heap.size (.bool s1) (.slice A1 n1 c1) by rw [← hx1]; exact P2.lit _ _ _ _)
    have hl1 := hr1.2.2
    rw [Int.natAbs_natCast] at hl1
    have HL1 := Lib.hid (show LI .i64 x1 (.slice A1 n1 c1) (digs 10000 (2 ^ E)) by rw [← hx1]; exact hl1.new ((Below.refl _ _).alloc (Nat.le_refl _) _))
    have HLX := Lib.hid ((HL.out.new HK.out).new HB1.out)
    have HBB := Lib.hid (bt HK.out HB1.out)
    obtain ⟨p0, p1⟩ := HQ1.out.cells
    obtain ⟨b0, b1⟩ := (HP.out.new HB1.out).cells
    clear hr1 hb1 hl1 a0 a1 hW
    obtain ⟨P, hP⟩ : ∃ P, 2 ^ E = P := ⟨_, rfl⟩
    rw [hP] at HL1 HC
    clear hP
    have hcase : (x.natAbs < P ∧ cmpN x.natAbs P = -1) ∨ (¬ x.natAbs < P ∧ 0 ≤ cmpN x.natAbs P) := by
      by_cases h : x.natAbs < P
      · exact .inl ⟨h, cmpN_lt h⟩
      · refine .inr ⟨h, ?_⟩
        unfold cmpN
        rw [if_neg h]
        split <;> omega
    obtain ⟨u, hu⟩ : ∃ u, cmpN x.natAbs P = u := ⟨_, rfl⟩
    rw [hu] at hcase
    have HU := Lib.hid hu
    clear hu
    rcases hcase with ⟨hlt, hu⟩ | ⟨hlt, hu⟩
    all_goals
      have HLT := Lib.hid hlt
      clear hlt
      go_wp2_with fail
      refine (compared_any x.natAbs P A A1 n n1 c c1 x1 HLX.out HL1.out (by omega) (by omega)).mono ?_
      rw [HU.out]
      rintro e w2 ⟨rfl, hb2⟩
      have HB2 := Lib.hid (bt HBB.out hb2)
      clear hb2
      go_wp2
      go_ret
    · exact ⟨by subst hu; rw [HC.out, decide_eq_true HLT.out]; rfl, HB2.out⟩
    · refine ⟨?_, HB2.out⟩
      rw [HC.out, decide_eq_false HLT.out]
      show Ending.returned (.bool (decide (u < 0))) = .returned (.bool false)
      rw [decide_eq_false (by omega)]
def nearE (r : Nat) : Nat := if r = 0 then 16384 else if r = 1 then 16383 else if r = 2 then 8192 else 63
/-- The integer that Near makes. -/
def nearV (v : Int) : Int :=
  if aroundI (v.tdiv 28) 2 = 1 then -(((2 ^ nearE (aroundI v 28 % 4) : Nat) : Int) + (((aroundI v 28 / 4 : Nat) : Int) - 3)) else ((2 ^ nearE (aroundI v 28 % 4) : Nat) : Int) + (((aroundI v 28 / 4 : Nat) : Int) - 3)
set_option maxRecDepth 100000 in
set_option maxHeartbeats 1600000 in
theorem near_any (v : Int) (w : World) (hv : (Lit.int .i64 v).wf = true) :
    Calls Try.prog 20 #[.int .i64 v] w (RetN (nearV v) w) := by
  obtain ⟨hb1, hb2⟩ : -9223372036854775808 ≤ v ∧ v ≤ 9223372036854775807 := by simpa [Lit.wf, IntKind.min, IntKind.max, IntKind.signed, IntKind.bits] using hv
  obtain ⟨u, hu⟩ : ∃ u, v.tdiv 28 = u := ⟨_, rfl⟩
  have hub : -9223372036854775808 ≤ u ∧ u ≤ 9223372036854775807 := by
    rw [← hu]
    rcases Int.le_total 0 v with h | h
    · rw [Int.tdiv_eq_ediv_of_nonneg h]; omega
    · have e : v.tdiv 28 = -((-v) / 28) := by rw [← Int.tdiv_eq_ediv_of_nonneg (by omega), Int.neg_tdiv, Int.neg_neg]
      rw [e]; omega
  obtain ⟨hu1, hu2⟩ := hub
  have HUW := Lib.hid (show (Lit.int .i64 u).wf = true from WalkArith.wf_i64 ⟨hu1, hu2⟩)
  have hwu : IntKind.i64.wrap u = u := IntWalk.i64_in _ ⟨hu1, hu2⟩
  have HV := Lib.hid hv
  have HNV := Lib.hid (show nearV v = if aroundI u 2 = 1 then -(((2 ^ nearE (aroundI v 28 % 4) : Nat) : Int) + (((aroundI v 28 / 4 : Nat) : Int) - 3)) else ((2 ^ nearE (aroundI v 28 % 4) : Nat) : Int) + (((aroundI v 28 / 4 : Nat) : Int) - 3) by rw [← hu]; rfl)
  clear hv
  obtain ⟨W, hW⟩ : ∃ W, w.alloc (.cells #[.bool false, .slice none 0 0] 24) = W := ⟨_, rfl⟩
  have HK := Lib.hid (show Below w.heap.size w W by rw [← hW]; exact (Below.refl _ w).alloc (Nat.le_refl _) _)
  have HP := Lib.hid (show P2 24 W w.heap.size (.bool false) (.slice none 0 0) by rw [← hW]; exact P2.lit _ _ _ _)
  have hk28 := aroundI_lt v (n := 28) (by decide)
  have hj2 := aroundI_lt u (n := 2) (by decide)
  have HA1 := Lib.hid (fun w => around_any v 28 w (by decide) (by decide) HV.out)
  have HA2 := Lib.hid (fun w => around_any u 2 w (by decide) (by decide) HUW.out)
  generalize aroundI v 28 = k at hk28 HA1 HNV
  generalize aroundI u 2 = j at hj2 HA2 HNV
  obtain ⟨r, hr⟩ : ∃ r, k % 4 = r := ⟨_, rfl⟩
  obtain ⟨d, hd⟩ : ∃ d : Int, ((k / 4 : Nat) : Int) - 3 = d := ⟨_, rfl⟩
  rw [hr, hd] at HNV
  have hr4 : r < 4 := by omega
  have hrI : (k : Int) % 4 = (r : Int) := by omega
  have hdI : (k : Int) / 4 - 3 = d := by omega
  have hd1 : -3 ≤ d ∧ d ≤ 3 := by omega
  obtain ⟨hd2, hd3⟩ := hd1
  clear hr hd
  go_enter Try.func20, Try.ntmps20
  go_wp2_with fail
  refine (HA1.out _).mono ?_
  rintro e w1 ⟨rfl, rfl⟩
  obtain ⟨E, hE⟩ : ∃ E, nearE r = E := ⟨_, rfl⟩
  rw [hE] at HNV
  have hr4' : r = 0 ∨ r = 1 ∨ r = 2 ∨ r = 3 := by omega
  rcases hr4' with rfl | rfl | rfl | rfl
  all_goals
    have HE := Lib.hid hE
    have hE2 : E ≤ 16384 := by rw [← hE]; decide
    clear hE
    go_wp2_with fail
    refine (power_lit E _ _ (by rw [← HE.out]; rfl) (by omega)).mono ?_
    rintro e w2 ⟨s2, A2, n2, c2, rfl, hr2, hb2⟩
    have HR2 := Lib.hid hr2
    have HB2 := Lib.hid (show Below W.heap.size W w2 from bt ((Below.refl _ _).alloc (Nat.le_refl _) _) hb2)
    have hn2 : n2 ≤ E + 1 := rn_len hr2 (by rw [Int.natAbs_natCast]; exact Nat.pow_lt_pow_right (by decide) (by omega))
    clear hr2 hb2
    go_wp2_with fail
    refine (of_any d w2 (WalkArith.wf_i64 (by omega))).mono ?_
    rintro e w3 ⟨s3, A3, n3, c3, rfl, hr3, hb3⟩
    have HR3 := Lib.hid hr3
    have HR23 := Lib.hid (HR2.out.new hb3)
    have HB3 := Lib.hid (bt HB2.out hb3)
    have hn3 : n3 ≤ 4 := rn_len hr3 (by omega)
    clear hr3 hb3
    go_wp2_with fail
    refine (add_any ((2 ^ E : Nat) : Int) d s2 s3 A2 A3 n2 c2 n3 c3 w3 HR23.out HR3.out (by omega) (by omega)).mono ?_
    obtain ⟨X, hX⟩ : ∃ X : Int, ((2 ^ E : Nat) : Int) + d = X := ⟨_, rfl⟩
    have HXB := Lib.hid (show X.natAbs < 2 ^ (E + 3) by
      rw [← hX, Nat.pow_add]
      have h0 : 0 < 2 ^ E := Nat.pow_pos (by decide)
      generalize 2 ^ E = P at h0
      omega)
    rw [hX] at HNV ⊢
    rintro e w4 ⟨s4, A4, n4, c4, rfl, hr4, hb4⟩
    have hn4 : n4 ≤ E + 3 := rn_len hr4 HXB.out
    obtain ⟨x4, hx4⟩ : ∃ z, w4.alloc (.cells #[.bool s4, .slice A4 n4 c4] 24) = z := ⟨_, rfl⟩
    have HB4 := Lib.hid (show Below W.heap.size W x4 by rw [← hx4]; exact (bt HB3.out hb4).alloc (bt HB3.out hb4).size _)
    have HQ4 := Lib.hid (show P2 24 x4 w4.heap.size (.bool s4) (.slice A4 n4 c4) by rw [← hx4]; exact P2.lit _ _ _ _)
    have HR4 := Lib.hid (show RN x4 s4 A4 n4 c4 X by rw [← hx4]; exact hr4.new ((Below.refl _ _).alloc (Nat.le_refl _) _))
    have hlt4 : w.heap.size < w4.heap.size := Nat.lt_of_lt_of_le HP.out.lt (bt HB3.out hb4).size
    clear hr4 hb4 hX hW
    go_wp2_with fail
    refine (HA2.out _).mono ?_
    rintro e w5 ⟨rfl, rfl⟩
    have HPZ := Lib.hid (HP.out.new HB4.out)
    have HBB := Lib.hid (bt HK.out HB4.out)
    obtain ⟨z0, z1⟩ := HPZ.out.cells
    have f0 := HPZ.out.frozen 0
    have f1 := HPZ.out.frozen 1
    obtain ⟨q0, q1⟩ := HQ4.out.cells
    clear hx4
    have hj : j = 0 ∨ j = 1 := by omega
    rcases hj with rfl | rfl
    · have HNV2 := Lib.hid (show nearV v = X by rw [HNV.out]; rfl)
      go_wp2_with fail
      refine bodyPost_ret (results_cell_row rfl _ _ _ _ _ _ _ rfl (HPZ.out.all (.bool s4) (.slice A4 n4 c4)) Try.underlying24 rfl N_size) rfl ?_
      rw [HNV2.out]
      exact RNo.stored HR4.out HPZ.out rfl rfl HBB.out (by omega) _ _
    · have HNV2 := Lib.hid (show nearV v = -X by rw [HNV.out]; rfl)
      go_wp2_with fail
      refine (neg_any X s4 A4 n4 c4 x4 HR4.out (by omega)).mono ?_
      rintro e w6 ⟨s6, A6, n6, c6, rfl, hr6, hb6⟩
      have HPY := Lib.hid (HPZ.out.new hb6)
      have HR6 := Lib.hid hr6
      have HB6 := Lib.hid (bt HBB.out hb6)
      obtain ⟨z0, z1⟩ := HPY.out.cells
      have f0 := HPY.out.frozen 0
      have f1 := HPY.out.frozen 1
      clear hr6 hb6
      go_wp2_with fail
      refine bodyPost_ret (results_cell_row rfl _ _ _ _ _ _ _ rfl (HPY.out.all (.bool s6) (.slice A6 n6 c6)) Try.underlying24 rfl N_size) rfl ?_
      rw [HNV2.out]
      exact RNo.stored HR6.out HPY.out rfl rfl HB6.out (by omega) _ _
end Go.Proofs.Ytlhccfmbfdaboaa
