/- Contracts of the reference's Fits, Near, Small. -/
import Derived.Test.YtbhnaffbgggabaaGreatB6
namespace Go.Proofs.YtbhnaffbgggabaaGreat
open Go.RowKit
attribute [local go_sem ↓] Go.wp_at_zero Go.wp_at_succ
theorem power_lit (E : Nat) (z : Int) (w : World) (hz : z = (E : Int)) (hE : E ≤ 20000) :
  Calls Tryz.prog 19 #[.int .i64 z] w (RetN ((2 ^ E : Nat) : Int) w) := by
 subst hz
 exact power_any E w hE
theorem digs_1229 : (10000 : Nat) ^ 10 ≤ 2 ^ 133 := by decide
theorem pow_gen {A a b q K E : Nat} (hA : A ^ a ≤ 2 ^ b) (h0 : 0 < A) (hK : K ≤ a * q) (hE : b * q ≤ E) : A ^ K ≤ 2 ^ E := by
 have h1 : (A ^ a) ^ q ≤ (2 ^ b) ^ q := Nat.pow_le_pow_left hA q
 rw [← Nat.pow_mul, ← Nat.pow_mul] at h1
 exact Nat.le_trans (Nat.pow_le_pow_right h0 hK) (Nat.le_trans h1 (Nat.pow_le_pow_right (by decide) hE))
theorem pow_1230 (K E : Nat) (hK : K ≤ 10 * 123) (h : 133 * 123 ≤ E) : (10000 : Nat) ^ K ≤ 2 ^ E := pow_gen digs_1229 (by decide) hK h
set_option maxRecDepth 100000 in
set_option maxHeartbeats 1600000 in
theorem fits_any (x : Int) (s : Bool) (A : Option Addr) (n c : Nat) (w : World) (hx : RN w s A n c x) (hn : n ≤ 900000) :
  Calls Tryz.prog 111 #[.agg #[.bool s, .slice A n c]] w fun e w' => e = .returned (.bool (decide (x.natAbs < lim))) ∧ Below w.heap.size w w' := by
 have HL := hJ hx.2.2
 have HN := hJ hx.2.1
 clear hx
 obtain ⟨E, hE0⟩ : ∃ E : Nat, 32 * limE = E := ⟨_, rfl⟩
 have hlim : lim = 2 ^ E := by rw [lim_two, hE0]
 have hE : E = 16384 := by rw [← hE0]; rfl
 clear hE0
 have HE := hJ hE
 obtain ⟨W, hW⟩ : ∃ W, w.alloc (.cells #[.bool s, .slice A n c] 24) = W := ⟨_, rfl⟩
 have HK := hJ (show Below w.heap.size w W by rw [← hW]; exact (Below.refl _ w).alloc (Nat.le_refl _) _)
 have HP := hJ (show P2 24 W w.heap.size (.bool s) (.slice A n c) by rw [← hW]; exact P2.lit _ _ _ _)
 obtain ⟨a0, a1⟩ := HP.out.cells
 by_cases hs : n < 1230
 ·have HT := hJ (show decide (x.natAbs < lim) = true by
   rw [decide_eq_true_iff, hlim]
   have h1 := digs_lt (B := 10000) (by decide) x.natAbs
   rw [HN.out] at h1
   exact Nat.lt_of_lt_of_le h1 (pow_1230 n E (by omega) (by omega)))
  clear hlim hE
  go_enter Tryz.func111, Tryz.ntmps111
  go_wp2
  go_ret
  exact ⟨by rw [HT.out]; rfl, HK.out⟩
 ·have HC := hJ hlim
  clear hlim
  go_enter Tryz.func111, Tryz.ntmps111
  go_wp2_with fail
  refine (power_lit E _ W (by rw [HE.out]; rfl) (by omega)).mono ?_
  rintro e w1 ⟨s1, A1, n1, c1, rfl, hr1, hb1⟩
  have hn1 : n1 ≤ E + 1 := rn_len hr1 (by rw [Int.natAbs_natCast]; exact Nat.pow_lt_pow_right (by decide) (by omega))
  obtain ⟨x1, hx1⟩ := nmz (w1.alloc (.cells #[.bool s1, .slice A1 n1 c1] 24))
  have HB1 := hJ (show Below W.heap.size W x1 by rw [← hx1]; exact hb1.alloc hb1.size _)
  have HQ1 := hJ (show P2 24 x1 w1.heap.size (.bool s1) (.slice A1 n1 c1) by rw [← hx1]; exact P2.lit _ _ _ _)
  have hl1 := hr1.2.2
  rw [Int.natAbs_natCast] at hl1
  have HL1 := hJ (show LI .i64 x1 (.slice A1 n1 c1) (digs 10000 (2 ^ E)) by rw [← hx1]; exact hl1.new ((Below.refl _ _).alloc (Nat.le_refl _) _))
  have HLX := hJ ((HL.out.new HK.out).new HB1.out)
  have HBB := hJ (bt HK.out HB1.out)
  obtain ⟨p0, p1⟩ := HQ1.out.cells
  obtain ⟨b0, b1⟩ := (HP.out.new HB1.out).cells
  clear hr1 hb1 hl1 a0 a1 hW
  obtain ⟨P, hP⟩ : ∃ P, 2 ^ E = P := ⟨_, rfl⟩
  rw [hP] at HL1 HC
  clear hP
  have hcase : (x.natAbs < P ∧ cmpN x.natAbs P = -1) ∨ (¬ x.natAbs < P ∧ 0 ≤ cmpN x.natAbs P) := by
   by_cases h : x.natAbs < P
   ·exact .inl ⟨h, cmpN_lt h⟩
   ·refine .inr ⟨h, ?_⟩
    unfold cmpN
    rw [if_neg h]
    split <;> omega
  obtain ⟨u, hu⟩ : ∃ u, cmpN x.natAbs P = u := ⟨_, rfl⟩
  rw [hu] at hcase
  have HU := hJ hu
  clear hu
  rcases hcase with ⟨hlt, hu⟩ | ⟨hlt, hu⟩
  all_goals
   have HLT := hJ hlt
   clear hlt
   go_wp2_with fail
   refine (compared_any x.natAbs P A A1 n n1 c c1 x1 HLX.out HL1.out (by omega) (by omega)).mono ?_
   rw [HU.out]
   rintro e w2 ⟨rfl, hb2⟩
   have HB2 := hJ (bt HBB.out hb2)
   clear hb2
   go_wp2
   go_ret
  ·exact ⟨by subst hu; rw [HC.out, decide_eq_true HLT.out]; rfl, HB2.out⟩
  ·refine ⟨?_, HB2.out⟩
   rw [HC.out, decide_eq_false HLT.out]
   show Ending.returned (.bool (decide (u < 0))) = .returned (.bool false)
   rw [decide_eq_false (by omega)]
/-- What the reference's Power returns, by the name of its value. -/
theorem power_v (E : Nat) (z : Int) (w : World) (hz : z = (E : Int)) (hE : E ≤ 20000) :
  Calls Tryz.prog 19 #[.int .i64 z] w fun e w' => ∃ x s A n c, e = .returned (.agg #[.bool s, .slice A n c]) ∧ RN w' s A n c x ∧ x = ((B2 E : Nat) : Int) ∧ Below w.heap.size w w' :=
 (power_lit E z w hz hE).mono fun _ _ ⟨s, A, n, c, h1, h2, h3⟩ => ⟨_, s, A, n, c, h1, h2, rfl, h3⟩
theorem b2_pow {x : Int} {k : Nat} (h : x = ((B2 k : Nat) : Int)) : x.natAbs < B2 (k + 1) := by
 rw [h, Int.natAbs_natCast]
 exact Nat.pow_lt_pow_right (by decide) (Nat.lt_succ_self k)
end Go.Proofs.YtbhnaffbgggabaaGreat
