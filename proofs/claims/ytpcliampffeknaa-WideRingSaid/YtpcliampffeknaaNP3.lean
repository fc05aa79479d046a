/- Contracts of the program's words: comparing, sums. -/
import Derived.Test.YtpcliampffeknaaNP2
import Derived.Test.YtpcliampffeknaaMWord
namespace Go.Proofs.Ytpcliampffeknaa
open Go.RowKit
attribute [local go_sem ↓] Go.wp_at_zero Go.wp_at_succ

theorem isNaNi_any (x : Int) (w : World) : Calls Try.prog 84 #[.int .i64 x] w fun e w' => e = .returned (.bool false) ∧ w = w' := by
  go_enter Try.func84, Try.ntmps84
  go_wp2
  go_ret
  exact ⟨rfl, rfl⟩
theorem isNaNw_any (x : Int) (w : World) : Calls Try.prog 85 #[.int .u32 x] w fun e w' => e = .returned (.bool false) ∧ w = w' := by
  go_enter Try.func85, Try.ntmps85
  go_wp2
  go_ret
  exact ⟨rfl, rfl⟩
theorem cmpi_any (x y v : Int) (w : World) (h : (x < y ∧ v = -1) ∨ (x = y ∧ v = 0) ∨ (y < x ∧ v = 1)) : Calls Try.prog 76 #[.int .i64 x, .int .i64 y] w fun e w' => e = .returned (.int .i64 v) ∧ w = w' := by
  rcases h with ⟨h, rfl⟩ | ⟨rfl, rfl⟩ | ⟨h, rfl⟩
  · go_enter Try.func76, Try.ntmps76
    go_wp2_with (first | (go_at_call 84; refine (isNaNi_any _ _).mono ?_; rintro e w' ⟨rfl, rfl⟩))
    go_ret
    exact ⟨rfl, rfl⟩
  · go_enter Try.func76, Try.ntmps76
    go_wp2_with (first | (go_at_call 84; refine (isNaNi_any _ _).mono ?_; rintro e w' ⟨rfl, rfl⟩))
    go_ret
    exact ⟨rfl, rfl⟩
  · have h' : ¬ x < y := by omega
    go_enter Try.func76, Try.ntmps76
    go_wp2_with (first | (go_at_call 84; refine (isNaNi_any _ _).mono ?_; rintro e w' ⟨rfl, rfl⟩))
    go_ret
    exact ⟨rfl, rfl⟩
theorem cmpw_any (x y v : Int) (w : World) (h : (x < y ∧ v = -1) ∨ (x = y ∧ v = 0) ∨ (y < x ∧ v = 1)) : Calls Try.prog 77 #[.int .u32 x, .int .u32 y] w fun e w' => e = .returned (.int .i64 v) ∧ w = w' := by
  rcases h with ⟨h, rfl⟩ | ⟨rfl, rfl⟩ | ⟨h, rfl⟩
  · go_enter Try.func77, Try.ntmps77
    go_wp2_with (first | (go_at_call 85; refine (isNaNw_any _ _).mono ?_; rintro e w' ⟨rfl, rfl⟩))
    go_ret
    exact ⟨rfl, rfl⟩
  · go_enter Try.func77, Try.ntmps77
    go_wp2_with (first | (go_at_call 85; refine (isNaNw_any _ _).mono ?_; rintro e w' ⟨rfl, rfl⟩))
    go_ret
    exact ⟨rfl, rfl⟩
  · have h' : ¬ x < y := by omega
    go_enter Try.func77, Try.ntmps77
    go_wp2_with (first | (go_at_call 85; refine (isNaNw_any _ _).mono ?_; rintro e w' ⟨rfl, rfl⟩))
    go_ret
    exact ⟨rfl, rfl⟩

theorem quiet_addl {P : Program} {f : FuncId} {args : Array Value} {w : World} {a n : Nat} {v : Value} (h : Calls P f args (w.drewN (a + n)) fun e w' => e = .returned v ∧ w.drewN (a + n) = w') :
    Calls P f args (w.drewN (a + n)) fun e w'' => e = .returned v ∧ ∃ m, w'' = w.drewN (a + m) := h.mono fun _ _ ⟨he, hm⟩ => ⟨he, n, hm.symm⟩
/-- Two numbers of equal length. -/
theorem compareWords_eq (la lb : List Nat) (A A' : Option Addr) (n c c' : Nat) (w : World) (hda : Dig 4294967296 la) (hdb : Dig 4294967296 lb) (hx : LI .u32 w (.slice A n c) la) (hy : LI .u32 w (.slice A' n c') lb) (hn : n ≤ 1000000) :
    Calls Try.prog 64 #[.slice A n c, .slice A' n c'] w fun e w' => e = .returned (.int .i64 (cmpN (val 4294967296 la) (val 4294967296 lb))) ∧ Below w.heap.size w w' := by
  have HX := Lib.hid hx
  have HY := Lib.hid hy
  have H1 := Lib.hid hx.len.1
  have H2 := Lib.hid hy.len.1
  have HDA := Lib.hid hda
  have HDB := Lib.hid hdb
  clear hx hy hda hdb
  go_enter Try.func64, Try.ntmps64
  go_wp2
  go_loopw [5] (fun i wr => ∃ z : Int, -1 ≤ z ∧ z < (n : Int) ∧ i = .int .i64 z ∧ la.drop (z + 1).toNat = lb.drop (z + 1).toNat ∧ Below w.heap.size w wr) (fun i _ => (intOf i + 1).toNat)
  case atStart => exact ⟨(n : Int) - 1, by omega, by omega, rfl, by rw [List.drop_of_length_le (by rw [H1.out]; omega), List.drop_of_length_le (by rw [H2.out]; omega)], Below.refl _ _⟩
  case round =>
    obtain ⟨z, hz1, hz2, rfl, hd, hb⟩ := hrel
    have HD := Lib.hid hd
    have HB := Lib.hid hb
    clear hd hb
    by_cases hz : 0 ≤ z
    · obtain ⟨j, rfl⟩ : ∃ j : Nat, z = (j : Int) := ⟨z.toNat, by omega⟩
      obtain ⟨b, off, rfl, hb1, hc1⟩ := (HX.out.new HB.out).at_ (j := j) (by omega)
      obtain ⟨b', off', rfl, hb2, hc2⟩ := (HY.out.new HB.out).at_ (j := j) (by omega)
      have HD2 := Lib.hid (show la.drop (j + 1) = lb.drop (j + 1) from HD.out)
      obtain ⟨X, hX⟩ : ∃ X : Int, ((la.getD j 0 : Nat) : Int) = X := ⟨_, rfl⟩
      obtain ⟨Y, hY⟩ : ∃ Y : Int, ((lb.getD j 0 : Nat) : Int) = Y := ⟨_, rfl⟩
      rw [hX] at hc1
      rw [hY] at hc2
      have HVX := Lib.hid hX
      have HVY := Lib.hid hY
      clear hX hY HD
      have hj1 : (0 : Int) ≤ (j : Int) := by omega
      have hj2 : (j : Int) < (n : Int) := by omega
      by_cases hXY : X = Y
      · subst hXY
        have HE := Lib.hid (show la.drop j = lb.drop j by
          have e1 := H1.out
          have e2 := H2.out
          rw [drop_cons (by omega), drop_cons (l := lb) (by omega), HD2.out]
          have : la.getD j 0 = lb.getD j 0 := by have := HVX.out; have := HVY.out; omega
          rw [this])
        go_wp2
        go_quiet (fail)
        go_wp2
        go_roundw
        case rel => exact ⟨(j : Int) - 1, by omega, by omega, rfl, by rw [show ((j : Int) - 1 + 1).toNat = j by omega]; exact HE.out, by exact ⟨HB.out.os, HB.out.tape, HB.out.output, HB.out.size, HB.out.block⟩⟩
        case measure => simp [intOf]
      · have hne : (X != Y) = true := by rw [bne_iff_ne]; exact hXY
        obtain ⟨v, hv⟩ : ∃ v, cmpN (val 4294967296 la) (val 4294967296 lb) = v := ⟨_, rfl⟩
        have HV := Lib.hid hv
        have HC := Lib.hid (show (X < Y ∧ v = -1) ∨ (X = Y ∧ v = 0) ∨ (Y < X ∧ v = 1) by
          have e1 := HVX.out
          have e2 := HVY.out
          rcases Int.lt_trichotomy X Y with h | h | h
          · exact .inl ⟨h, by rw [← hv]; exact cmpN_lt (val_cmp (by decide) HDA.out HD2.out (by omega))⟩
          · exact absurd h hXY
          · exact .inr (.inr ⟨h, by rw [← hv]; exact cmpN_gt (val_cmp (by decide) HDB.out HD2.out.symm (by omega))⟩))
        clear hXY hv
        go_wp2
        go_quiet (fail)
        go_wp2
        go_quiet ((go_at_call 77; exact quiet_addl (cmpw_any X Y v _ HC.out)))
        go_wp2
        go_ret
        exact ⟨ret_int HV.out.symm, by exact ⟨HB.out.os, HB.out.tape, HB.out.output, HB.out.size, HB.out.block⟩⟩
    · obtain rfl : z = -1 := by omega
      go_wp2
      go_ret
      refine ⟨?_, HB.out⟩
      have : la = lb := by
        have := HD.out
        rw [show ((-1 : Int) + 1).toNat = 0 by omega, List.drop_zero, List.drop_zero] at this
        exact this
      rw [this, cmpN_eq]
      rfl
end Go.Proofs.Ytpcliampffeknaa
