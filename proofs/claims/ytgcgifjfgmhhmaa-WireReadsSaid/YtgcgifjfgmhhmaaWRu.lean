/- The contract of the reader's Uint. -/
import Derived.Test.YtgcgifjfgmhhmaaWRd
namespace Go.Proofs.Ytgcgifjfgmhhmaa
open Go.RowKit

theorem nextS_err {s : St} (h : s.e ≠ 0) : nextS s = (0, s) := by rw [nextS, if_pos h]
theorem failS_err {s : St} (h : s.e ≠ 0) (k : Nat) : failS s k = s := by rw [failS, if_neg h]
theorem Rdr.e_cell {T : TypeId} {w : World} {g : Nat} {ok : Nat → Prop} {s : St} (h : Rdr T w g ok s) : w.cell? ⟨g, 1, none⟩ = some (.int .i64 s.e) := by
  obtain ⟨a, n, c, l, hr, _⟩ := h
  exact hr.cell1
set_option maxHeartbeats 800000 in
theorem ruint_err (g : Nat) (ok : Nat → Prop) (s : St) (w : World) (h : Rdr 77 w g ok s) (he : s.e ≠ 0) :
    Calls Try.prog 45 #[.pointer (some ⟨g, 0, none⟩)] w fun e w' => e = .returned (.int .u64 0) ∧ Rdr 77 w' g ok s ∧ Own1 g w w' := by
  have HR := Lib.hid h
  have HE := Lib.hid he
  have hne : ((s.e : Int) != 0) = true := by rw [bne_iff_ne]; omega
  clear h he
  go_enter Try.func45, Try.ntmps45
  go_wp2
  go_loopw [4] (fun at_ wr => at_ = .int .i64 0 ∧ w = wr) (fun _ _ => 0)
  case atStart => exact ⟨rfl, rfl⟩
  case round =>
    obtain ⟨rfl, rfl⟩ := hrel
    go_wp2_with fail
    refine (next_any g ok s w HR.out).mono ?_
    rw [nextS_err HE.out]
    rintro e w1 ⟨rfl, hw1, hk1⟩
    have HW := Lib.hid hw1
    have hc1 := hw1.e_cell
    clear hw1
    go_wp2
    go_ret
    exact ⟨rfl, HW.out, hk1⟩
set_option maxHeartbeats 1600000 in
theorem ruint_ok (g : Nat) (ok : Nat → Prop) (l : List UInt8) (w : World) (h : Rdr 77 w g ok ⟨l, 0⟩) :
    Calls Try.prog 45 #[.pointer (some ⟨g, 0, none⟩)] w fun e w' => e = .returned (.int .u64 (scan 0 0 l).1) ∧ Rdr 77 w' g ok (scan 0 0 l).2 ∧ Own1 g w w' := by
  have HR := Lib.hid h
  clear h
  go_enter Try.func45, Try.ntmps45
  go_wp2
  go_loopw [3, 4] (fun v at_ wr => ∃ (i acc : Nat) (r : List UInt8), i ≤ 9 ∧ at_ = .int .i64 i ∧ v = .int .u64 acc ∧ acc < 128 ^ i ∧ scan i acc r = scan 0 0 l ∧ Rdr 77 wr g ok ⟨r, 0⟩ ∧ Own1 g w wr) (fun _ at_ _ => 10 - (intOf at_).toNat)
  case atStart => exact ⟨0, 0, l, by omega, rfl, rfl, by decide, rfl, HR.out, Kp.refl _ _⟩
  case round =>
    obtain ⟨i, acc, r, hi, rfl, rfl, hacc, hsc, hrd, hk⟩ := hrel
    have HS := Lib.hid hsc
    have HA := Lib.hid hacc
    have HD := Lib.hid hrd
    clear hsc hacc hrd
    cases r with
    | nil =>
      have HS2 := Lib.hid (show scan 0 0 l = (0, ⟨[], 3⟩) from HS.out.symm)
      by_cases h0 : 0 < i
      · by_cases h9' : i = 9
        · subst h9'
          skip
          go_wp2_with fail
          refine (next_any g ok ⟨[], 0⟩ wr HD.out).mono ?_
          rw [show nextS ⟨[], 0⟩ = (0, ⟨[], 3⟩) from rfl]
          rintro e w1 ⟨rfl, hw1, hk1⟩
          have HW := Lib.hid hw1
          have hc1 := hw1.e_cell
          clear hw1

          go_wp2_with fail
          refine (fail_any 2 g ok ⟨[], 3⟩ w1 HW.out (by decide)).mono ?_
          rw [show failS ⟨[], 3⟩ 2 = ⟨[], 3⟩ from rfl]
          rintro e w2 ⟨rfl, hw2, hk2⟩
          have HW2 := Lib.hid hw2
          have hc2 := hw2.e_cell
          clear hw2 hc1
          go_wp2
          go_ret
          rw [HS2.out]
          exact ⟨rfl, HW2.out, (hk.trans hk1).trans hk2⟩
        · have h9 : ((i : Int) == 9) = false := beq_eq_false_iff_ne.2 (by omega)
          skip
          go_wp2_with fail
          refine (next_any g ok ⟨[], 0⟩ wr HD.out).mono ?_
          rw [show nextS ⟨[], 0⟩ = (0, ⟨[], 3⟩) from rfl]
          rintro e w1 ⟨rfl, hw1, hk1⟩
          have HW := Lib.hid hw1
          have hc1 := hw1.e_cell
          clear hw1

          go_wp2_with fail
          refine (fail_any 2 g ok ⟨[], 3⟩ w1 HW.out (by decide)).mono ?_
          rw [show failS ⟨[], 3⟩ 2 = ⟨[], 3⟩ from rfl]
          rintro e w2 ⟨rfl, hw2, hk2⟩
          have HW2 := Lib.hid hw2
          have hc2 := hw2.e_cell
          clear hw2 hc1
          go_wp2
          go_ret
          rw [HS2.out]
          exact ⟨rfl, HW2.out, (hk.trans hk1).trans hk2⟩
      · obtain rfl : i = 0 := by omega
        skip
        go_wp2_with fail
        refine (next_any g ok ⟨[], 0⟩ wr HD.out).mono ?_
        rw [show nextS ⟨[], 0⟩ = (0, ⟨[], 3⟩) from rfl]
        rintro e w1 ⟨rfl, hw1, hk1⟩
        have HW := Lib.hid hw1
        have hc1 := hw1.e_cell
        clear hw1
        go_wp2
        go_ret
        rw [HS2.out]
        exact ⟨rfl, HW.out, hk.trans hk1⟩
    | cons c r =>
      have hcl := c.toNat_lt
      obtain ⟨x, hx⟩ : ∃ x : Int, (c.toNat : Int) = x := ⟨_, rfl⟩
      have hx0 : 0 ≤ x := by omega
      have hx1 : x < 256 := by omega
      have HX := Lib.hid hx
      by_cases hB1 : i = 9 ∧ 1 < x
      · obtain ⟨rfl, hb⟩ := hB1
        have HS2 := Lib.hid (show scan 0 0 l = (0, ⟨r, 2⟩) by rw [← HS.out, scan, if_pos (.inl ⟨rfl, by omega⟩)])
        clear hx hcl
        go_wp2_with fail
        refine (next_any g ok ⟨c :: r, 0⟩ wr HD.out).mono ?_
        rw [show nextS ⟨c :: r, 0⟩ = (c.toNat, ⟨r, 0⟩) from rfl]
        rintro e w1 ⟨rfl, hw1, hk1⟩
        have HW := Lib.hid hw1
        have hc1 := hw1.e_cell
        clear hw1
        rw [HX.out]
        go_wp2_with fail
        refine (fail_any 2 g ok ⟨r, 0⟩ w1 HW.out (by decide)).mono ?_
        rw [show failS ⟨r, 0⟩ 2 = ⟨r, 2⟩ from rfl]
        rintro e w2 ⟨rfl, hw2, hk2⟩
        have HW2 := Lib.hid hw2
        have hc2 := hw2.e_cell
        clear hw2 hc1
        go_wp2
        go_ret
        rw [HS2.out]
        exact ⟨rfl, HW2.out, (hk.trans hk1).trans hk2⟩
      by_cases hB2 : 0 < i ∧ x = 0
      · obtain ⟨hi0, hb⟩ := hB2
        have HS2 := Lib.hid (show scan 0 0 l = (0, ⟨r, 2⟩) by rw [← HS.out, scan, if_pos (.inr ⟨hi0, by omega⟩)])
        subst hb
        clear hx hcl hB1 hx0 hx1
        by_cases h9' : i = 9
        · subst h9'
          go_wp2_with fail
          refine (next_any g ok ⟨c :: r, 0⟩ wr HD.out).mono ?_
          rw [show nextS ⟨c :: r, 0⟩ = (c.toNat, ⟨r, 0⟩) from rfl]
          rintro e w1 ⟨rfl, hw1, hk1⟩
          have HW := Lib.hid hw1
          have hc1 := hw1.e_cell
          clear hw1
          rw [HX.out]
          go_wp2_with fail
          refine (fail_any 2 g ok ⟨r, 0⟩ w1 HW.out (by decide)).mono ?_
          rw [show failS ⟨r, 0⟩ 2 = ⟨r, 2⟩ from rfl]
          rintro e w2 ⟨rfl, hw2, hk2⟩
          have HW2 := Lib.hid hw2
          have hc2 := hw2.e_cell
          clear hw2 hc1
          go_wp2
          go_ret
          rw [HS2.out]
          exact ⟨rfl, HW2.out, (hk.trans hk1).trans hk2⟩

        · have h9 : ((i : Int) == 9) = false := beq_eq_false_iff_ne.2 (by omega)
          go_wp2_with fail
          refine (next_any g ok ⟨c :: r, 0⟩ wr HD.out).mono ?_
          rw [show nextS ⟨c :: r, 0⟩ = (c.toNat, ⟨r, 0⟩) from rfl]
          rintro e w1 ⟨rfl, hw1, hk1⟩
          have HW := Lib.hid hw1
          have hc1 := hw1.e_cell
          clear hw1
          rw [HX.out]
          go_wp2_with fail
          refine (fail_any 2 g ok ⟨r, 0⟩ w1 HW.out (by decide)).mono ?_
          rw [show failS ⟨r, 0⟩ 2 = ⟨r, 2⟩ from rfl]
          rintro e w2 ⟨rfl, hw2, hk2⟩
          have HW2 := Lib.hid hw2
          have hc2 := hw2.e_cell
          clear hw2 hc1
          go_wp2
          go_ret
          rw [HS2.out]
          exact ⟨rfl, HW2.out, (hk.trans hk1).trans hk2⟩

      have hgood : ¬ ((i = 9 ∧ 1 < c.toNat) ∨ (0 < i ∧ c.toNat = 0)) := by
        rintro (⟨h1, h2⟩ | ⟨h1, h2⟩)
        · exact hB1 ⟨h1, by omega⟩
        · exact hB2 ⟨h1, by omega⟩
      have HG := Lib.hid hgood
      by_cases h128 : x < 128
      · have HS2 := Lib.hid (show scan 0 0 l = (acc + c.toNat * 128 ^ i, ⟨r, 0⟩) by rw [← HS.out, scan, if_neg HG.out, if_pos (by omega)])
        clear hx hcl hgood
        by_cases h9' : i = 9
        · subst h9'
          have hx2 : ¬ 1 < x := fun h => hB1 ⟨rfl, h⟩
          have hx3 : ¬ x = 0 := fun h => hB2 ⟨by omega, h⟩
          obtain rfl : x = 1 := by omega
          clear hB1 hB2 hx2 hx3 h128 hx0 hx1
          go_wp2_with fail
          refine (next_any g ok ⟨c :: r, 0⟩ wr HD.out).mono ?_
          rw [show nextS ⟨c :: r, 0⟩ = (c.toNat, ⟨r, 0⟩) from rfl]
          rintro e w1 ⟨rfl, hw1, hk1⟩
          have HW := Lib.hid hw1
          have hc1 := hw1.e_cell
          clear hw1
          rw [HX.out]

          go_wp2
          go_ret
          rw [HS2.out]
          exact ⟨ret_i ((or_step9 acc HA.out).trans (by rw [show c.toNat = 1 by have := HX.out; omega])), HW.out, hk.trans hk1⟩
        · have h9 : ((i : Int) == 9) = false := beq_eq_false_iff_ne.2 (by omega)
          by_cases h0 : 0 < i
          · have hx3 : (x == 0) = false := beq_eq_false_iff_ne.2 (fun h => hB2 ⟨h0, h⟩)
            clear hB1 hB2
            go_wp2_with fail
            refine (next_any g ok ⟨c :: r, 0⟩ wr HD.out).mono ?_
            rw [show nextS ⟨c :: r, 0⟩ = (c.toNat, ⟨r, 0⟩) from rfl]
            rintro e w1 ⟨rfl, hw1, hk1⟩
            have HW := Lib.hid hw1
            have hc1 := hw1.e_cell
            clear hw1
            rw [HX.out]

            go_wp2
            go_ret
            rw [HS2.out]
            exact ⟨ret_i ((or_stepI acc c.toNat i x HX.out (by omega) HA.out).trans (by rw [Nat.mod_eq_of_lt (show c.toNat < 128 by have := HX.out; omega)])), HW.out, hk.trans hk1⟩
          · obtain rfl : i = 0 := by omega
            clear hB1 hB2
            go_wp2_with fail
            refine (next_any g ok ⟨c :: r, 0⟩ wr HD.out).mono ?_
            rw [show nextS ⟨c :: r, 0⟩ = (c.toNat, ⟨r, 0⟩) from rfl]
            rintro e w1 ⟨rfl, hw1, hk1⟩
            have HW := Lib.hid hw1
            have hc1 := hw1.e_cell
            clear hw1
            rw [HX.out]

            go_wp2
            go_ret
            rw [HS2.out]
            exact ⟨ret_i ((or_step0 acc c.toNat x HX.out HA.out).trans (by rw [Nat.mod_eq_of_lt (show c.toNat < 128 by have := HX.out; omega)])), HW.out, hk.trans hk1⟩
      · have hi9 : i < 9 := by
          rcases Nat.lt_or_ge i 9 with h | h
          · exact h
          · exact absurd ⟨by omega, by omega⟩ hB1
        have HS2 := Lib.hid (show scan (i + 1) (acc + c.toNat % 128 * 128 ^ i) r = scan 0 0 l by rw [← HS.out, scan, if_neg HG.out, if_neg (by omega)])
        have h9 : ((i : Int) == 9) = false := beq_eq_false_iff_ne.2 (by omega)
        have hx3 : (x == 0) = false := beq_eq_false_iff_ne.2 (by omega)
        clear hx hcl hgood hB1 hB2
        by_cases h0 : 0 < i
        · skip
          go_wp2_with fail
          refine (next_any g ok ⟨c :: r, 0⟩ wr HD.out).mono ?_
          rw [show nextS ⟨c :: r, 0⟩ = (c.toNat, ⟨r, 0⟩) from rfl]
          rintro e w1 ⟨rfl, hw1, hk1⟩
          have HW := Lib.hid hw1
          have hc1 := hw1.e_cell
          clear hw1
          rw [HX.out]

          go_wp2
          go_roundw
          case rel => exact ⟨i + 1, acc + c.toNat % 128 * 128 ^ i, r, by omega, by go_num, congrArg _ (or_stepI acc c.toNat i x HX.out hi9 HA.out), acc_bd HA.out, HS2.out, HW.out, hk.trans hk1⟩
          case measure => simp [intOf]; omega
        · obtain rfl : i = 0 := by omega
          go_wp2_with fail
          refine (next_any g ok ⟨c :: r, 0⟩ wr HD.out).mono ?_
          rw [show nextS ⟨c :: r, 0⟩ = (c.toNat, ⟨r, 0⟩) from rfl]
          rintro e w1 ⟨rfl, hw1, hk1⟩
          have HW := Lib.hid hw1
          have hc1 := hw1.e_cell
          clear hw1
          rw [HX.out]

          go_wp2
          go_roundw
          case rel => exact ⟨0 + 1, acc + c.toNat % 128 * 128 ^ 0, r, by omega, by go_num, congrArg _ (or_step0 acc c.toNat x HX.out HA.out), acc_bd HA.out, HS2.out, HW.out, hk.trans hk1⟩
          case measure => simp [intOf]
theorem ruint_any (g : Nat) (ok : Nat → Prop) (s : St) (w : World) (h : Rdr 77 w g ok s) :
    Calls Try.prog 45 #[.pointer (some ⟨g, 0, none⟩)] w fun e w' => e = .returned (.int .u64 (uintS s).1) ∧ Rdr 77 w' g ok (uintS s).2 ∧ Own1 g w w' := by
  by_cases he : s.e = 0
  · obtain ⟨l, e⟩ := s
    dsimp only at he
    subst he
    rw [uintS, if_neg (by simp)]
    exact ruint_ok g ok l w h
  · rw [uintS_err he]
    exact ruint_err g ok s w h he
end Go.Proofs.Ytgcgifjfgmhhmaa
