/- Contracts of the reference's Of and Sub. -/
import Derived.Test.YtpcliampffeknaaNR5
namespace Go.Proofs.Ytpcliampffeknaa
open Go.RowKit
attribute [local go_sem ↓] Go.wp_at_zero Go.wp_at_succ

theorem one_block (t : TypeId) (w : World) (v0 v1 : Value) : P2 t (w.alloc (.cells #[v0, v1] t)) w.heap.size v0 v1 := P2.lit w t v0 v1
theorem tm_neg (m : Nat) : (-(m : Int)).tmod 10000 = -((m % 10000 : Nat) : Int) := by rw [Int.neg_tmod]; rfl
theorem td_neg (m : Nat) : (-(m : Int)).tdiv 10000 = -((m / 10000 : Nat) : Int) := by rw [Int.neg_tdiv]; rfl
set_option maxRecDepth 100000 in
set_option maxHeartbeats 1600000 in
theorem of_any (x : Int) (w : World) (hx : (Lit.int .i64 x).wf = true) :
    Calls Try.prog 21 #[.int .i64 x] w (RetN x w) := by
  have hb : -9223372036854775808 ≤ x ∧ x ≤ 9223372036854775807 := by
    simpa [Lit.wf, IntKind.min, IntKind.max, IntKind.signed, IntKind.bits] using hx
  obtain ⟨hb1, hb2⟩ := hb
  clear hx
  obtain ⟨i0, hi0, hz0, hz1, hz2⟩ := info_parts int_info
  obtain ⟨W, hW⟩ : ∃ W, w.alloc (.cells #[.bool false, .slice none 0 0] 25) = W := ⟨_, rfl⟩
  have HP := Lib.hid (show P2 25 W w.heap.size (.bool false) (.slice none 0 0) by rw [← hW]; exact one_block _ _ _ _)
  have HK := Lib.hid (show Below w.heap.size w W by rw [← hW]; exact (Below.refl _ w).alloc (Nat.le_refl _) _)
  have HWS := Lib.hid (show w.heap.size < W.heap.size by rw [← hW]; simp)
  obtain ⟨N0, hN0⟩ : ∃ N0, x.natAbs = N0 := ⟨_, rfl⟩
  obtain ⟨neg, hneg⟩ : ∃ neg, decide (x < 0) = neg := ⟨_, rfl⟩
  have HX := Lib.hid (show sgn neg N0 = x by rw [← hneg, ← hN0, sgn_of])
  have HN1 := Lib.hid (show N0 ≤ 9223372036854775808 by omega)
  clear hN0
  go_enter Try.func21, Try.ntmps21
  go_wp2_with fail
  clear hneg hW
  go_loopw [0, 3, 5] (fun n d _ wr => ∃ (m : Nat) (o : List Nat), n = .int .i64 (sgn neg m) ∧ o.length ≤ 5 ∧ Dig 10000 o ∧ val 10000 o + 10000 ^ o.length * m = N0 ∧ wr.ownsRow W.heap.size 3 1 d o.length (vs .i64 (nI o)) ∧ Below W.heap.size W wr) (fun n _ _ _ => (intOf n).natAbs)
  case atStart => exact ⟨N0, [], by rw [HX.out], by simp, dig_nil, by simp [val], World.ownsRow_nil _ _ _ _, Below.refl _ _⟩
  case round =>
    obtain ⟨m, o, rfl, hlo, hdo, hv, hown, hbel⟩ := hrel
    have HDO := Lib.hid hdo
    have HV := Lib.hid hv
    have HBB := Lib.hid hbel
    obtain ⟨z, hz⟩ : ∃ z, sgn neg m = z := ⟨_, rfl⟩
    rw [hz]
    obtain ⟨k, hk⟩ : ∃ k, o.length = k := ⟨_, rfl⟩
    rw [hk] at hown hlo hv
    have HZ := Lib.hid hz
    have HKK := Lib.hid hk
    have HVK := Lib.hid hv
    have HW := Lib.hid hown
    have HZM := Lib.hid (show z.natAbs = m by rw [← hz, sgn_abs])
    have hmN : m ≤ 9223372036854775808 := by
      have h1 := HN1.out
      have h2 : 1 * m ≤ 10000 ^ k * m := Nat.mul_le_mul_right m (Nat.pow_pos (by decide))
      omega
    have HMN := Lib.hid hmN
    have hz1' : -9223372036854775808 ≤ z := by have := HZM.out; omega
    have hz2' : z ≤ 9223372036854775807 := by
      have h1 := HX.out
      have h3 : 1 * m ≤ 10000 ^ k * m := Nat.mul_le_mul_right m (Nat.pow_pos (by decide))
      rw [← hz]
      unfold sgn at h1 ⊢
      split <;> rename_i hn <;> simp only [hn] at h1 <;> simp at h1 <;> omega
    clear hz hk hown hdo hv hbel hmN HV
    by_cases h0 : z = 0
    · subst h0
      obtain ⟨a5, c5, rfl⟩ := own_form HW.out
      have HLI := Lib.hid (LI.own HW.out)
      have HVO := Lib.hid (show val 10000 o = N0 by
        have := HVK.out
        have hm := HZM.out
        rw [← hm] at this
        simpa using this)
      go_wp2_with fail
      refine (normal_any neg o a5 k c5 wr HDO.out HLI.out (by omega)).mono ?_
      rintro e w6 ⟨neg6, A6, n6, c6, rfl, hrn, hb6⟩
      have hp := (HP.out.new HBB.out).new hb6
      obtain ⟨hc0, hc1⟩ := hp.cells
      have hf0 := hp.frozen 0
      have hf1 := hp.frozen 1
      have HPP := Lib.hid hp
      have HR := Lib.hid (hrn.eq (y := x) (by rw [HVO.out, HX.out]))
      have HB := Lib.hid ((HK.out.trans (HBB.out.mono HK.out.size)).trans (hb6.mono (HK.out.trans (HBB.out.mono HK.out.size)).size))
      clear hp hrn hb6
      go_wp2
      exact bodyPost_ret (results_cell_row rfl _ _ _ _ _ _ _ rfl (HPP.out.all (.bool neg6) (.slice A6 n6 c6)) Try.underlying25 rfl N_size) rfl (RNo.stored HR.out HPP.out rfl rfl HB.out (Nat.le_refl _) _ _)
    · have hk4 : k ≤ 4 := by
        have h1 := HVK.out
        have h2 := HN1.out
        have h3 := HZM.out
        rcases Nat.lt_or_ge k 5 with h | h
        · omega
        · obtain rfl : k = 5 := by omega
          have : (10000 : Nat) ^ 5 = 100000000000000000000 := by decide
          rw [this] at h1
          omega
      have HO2 := Lib.hid (show k + 1 ≤ maxLen by unfold maxLen; omega)
      have HO3 := Lib.hid (show (k + 1) * 8 ≤ 140737488355328 by omega)
      have HO4 := Lib.hid HBB.out.size
      have HW1 := fun o => Lib.hid (HW.out.alloc o)
      have key : ∀ (w1 : World) (v' : Value) (D Z : Int), D = ((m % 10000 : Nat) : Int) → Z = sgn neg (m / 10000) → w1.ownsRow W.heap.size 3 1 v' (k + 1) (vs .i64 (nI o) ++ [.int .i64 D]) → Below W.heap.size W w1 →
          ∃ (m' : Nat) (o' : List Nat), Value.int .i64 Z = .int .i64 (sgn neg m') ∧ o'.length ≤ 5 ∧ Dig 10000 o' ∧ val 10000 o' + 10000 ^ o'.length * m' = N0 ∧ w1.ownsRow W.heap.size 3 1 v' o'.length (vs .i64 (nI o')) ∧ Below W.heap.size W w1 := by
        intro w1 v' D Z hD hZ h1 h2
        have hl : (o ++ [m % 10000]).length = k + 1 := by rw [List.length_append, HKK.out]; rfl
        refine ⟨m / 10000, o ++ [m % 10000], by rw [hZ], by rw [hl]; omega, dig_snoc HDO.out (by omega), ?_, by rw [hl]; exact own_snocN HKK.out h1 hD, h2⟩
        have e := HVK.out
        rw [val_snoc, hl, HKK.out, Nat.pow_succ, Nat.mul_assoc, Nat.add_assoc, ← Nat.mul_add, Nat.mod_add_div]
        exact e
      have KEY := Lib.hid key
      clear key
      have HSG := Lib.hid (show (0 < z → z = (m : Int) ∧ neg = false) ∧ (z < 0 → z = -(m : Int) ∧ neg = true) by
        have := HZ.out
        unfold sgn at this
        cases neg <;> simp at this <;> constructor <;> intro h <;> constructor <;> first | rfl | omega)
      by_cases hpos : 0 < z
      · have HA := Lib.hid (HSG.out.1 hpos)
        clear h0
        go_wp2_with (at_builtin; refine wpList_append_own _ rfl _ _ 22 rfl W.heap.size 3 i0 (.int .i64 0) 1 8 Try.underlying22 hi0 hz0 hz1 hz2 rfl (by decide) _ _ _ rfl (HW1 _).out ⟨wr.heap.size, 0, none⟩ 1 1 [_] rfl rfl (cell_one_new _ _ _) (one_cells _ _) HO2.out HO3.out (alloc_ge HO4.out) ?_; intro v' w1 hown' hgrow _)
        have HE := Lib.hid (KEY.out w1 v' (z % 10000) (z / 10000) (by have := HA.out.1; omega) (by have := HA.out; rw [this.2, this.1]; unfold sgn; simp) hown' ((HBB.out.alloc HO4.out _).grown hgrow (alloc_ge HO4.out) (own_block_ge (HW1 (.cells #[] 0)).out)))
        clear hown' hgrow
        go_roundw
        case rel => exact HE.out
        case measure => simp [intOf]; omega
      · have hneg : z < 0 := by omega
        have HA := Lib.hid (HSG.out.2 hneg)
        obtain ⟨R, hR⟩ : ∃ R, z.tmod 10000 = R := ⟨_, rfl⟩
        obtain ⟨D, hD⟩ : ∃ D, z.tdiv 10000 = D := ⟨_, rfl⟩
        have HRR := Lib.hid (show R = -((m % 10000 : Nat) : Int) by rw [← hR, HA.out.1, tm_neg])
        have HDD := Lib.hid (show D = -((m / 10000 : Nat) : Int) by rw [← hD, HA.out.1, td_neg])
        have hR1 : -10000 < R := by have := HRR.out; omega
        have hR2 : R ≤ 0 := by have := HRR.out; omega
        have hD1 : -922337203685477581 ≤ D := by have := HDD.out; have := HMN.out; omega
        have hD2 : D ≤ 0 := by have := HDD.out; omega
        clear h0 hpos
        by_cases hR0 : R < 0
        · go_wp2_with (at_builtin; refine wpList_append_own _ rfl _ _ 22 rfl W.heap.size 3 i0 (.int .i64 0) 1 8 Try.underlying22 hi0 hz0 hz1 hz2 rfl (by decide) _ _ _ rfl (HW1 _).out ⟨wr.heap.size, 0, none⟩ 1 1 [_] rfl rfl (cell_one_new _ _ _) (one_cells _ _) HO2.out HO3.out (alloc_ge HO4.out) ?_; intro v' w1 hown' hgrow _)
          have HE := Lib.hid (KEY.out w1 v' (-R) D (by have := HRR.out; omega) (by rw [HDD.out, HA.out.2]; rfl) hown' ((HBB.out.alloc HO4.out _).grown hgrow (alloc_ge HO4.out) (own_block_ge (HW1 (.cells #[] 0)).out)))
          clear hown' hgrow
          go_roundw
          case rel => exact HE.out
          case measure => have := HA.out.1; have := HDD.out; simp [intOf]; omega
        · obtain rfl : R = 0 := by omega
          go_wp2_with (at_builtin; refine wpList_append_own _ rfl _ _ 22 rfl W.heap.size 3 i0 (.int .i64 0) 1 8 Try.underlying22 hi0 hz0 hz1 hz2 rfl (by decide) _ _ _ rfl (HW1 _).out ⟨wr.heap.size, 0, none⟩ 1 1 [_] rfl rfl (cell_one_new _ _ _) (one_cells _ _) HO2.out HO3.out (alloc_ge HO4.out) ?_; intro v' w1 hown' hgrow _)
          have HE := Lib.hid (KEY.out w1 v' 0 D (by have := HRR.out; omega) (by rw [HDD.out, HA.out.2]; rfl) hown' ((HBB.out.alloc HO4.out _).grown hgrow (alloc_ge HO4.out) (own_block_ge (HW1 (.cells #[] 0)).out)))
          clear hown' hgrow
          go_roundw
          case rel => exact HE.out
          case measure => have := HA.out.1; have := HDD.out; simp [intOf]; omega
end Go.Proofs.Ytpcliampffeknaa
