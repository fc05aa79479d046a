/- Contracts of the reference's digits: a digit, comparing, the normal form. -/
import Derived.WalkKit
import Derived.Outline
import Derived.WalkSpells
import Derived.WalkLawsBesides
import Derived.LoopTactic
import Derived.Deep.QuietTactic
import Derived.BigQuiet
import Derived.Test.YtpcliampffeknaaProg
import Derived.Test.YtpcliampffeknaaNMem
import Derived.Test.YtpcliampffeknaaNInt
import Derived.Lib.Hide
namespace Go.Proofs.Ytpcliampffeknaa
open Go.RowKit

theorem int_info : (Try.prog.info? 3).map (fun i => (i.zero, i.size, i.bytes)) = some (some (.int .i64 0), 1, 8) := by kernel_rfl
theorem int_size (W : World) : (sizeOf 3).run Try.prog W = .ok 1 W := by kernel_rfl
theorem ret_int {k : IntKind} {a b : Int} (h : a = b) : Ending.returned (.int k a) = .returned (.int k b) := by rw [h]

theorem at_any (l : List Nat) (A : Option Addr) (n c j : Nat) (w : World) (hl : LI .i64 w (.slice A n c) l) (_hn : n ≤ 1000000) (_hj : j ≤ 1000000) :
    Calls Try.prog 70 #[.slice A n c, .int .i64 (j : Int)] w fun e w' => e = .returned (.int .i64 ((l.getD j 0 : Nat) : Int)) ∧ w = w' := by
  have HL := Lib.hid hl
  by_cases h : j < n
  · obtain ⟨b, off, rfl, hb, hc⟩ := hl.at_ h
    clear hl
    generalize l.getD j 0 = x at hc
    go_enter Try.func70, Try.ntmps70
    go_wp2
    go_ret
    exact ⟨rfl, rfl⟩
  · have h0 : l.getD j 0 = 0 := getD_out (by have := hl.len; omega)
    rw [h0]
    clear hl h0
    go_enter Try.func70, Try.ntmps70
    go_wp2
    go_ret
    exact ⟨rfl, rfl⟩

/-- -1, 0 or 1. -/
def cmpN (a b : Nat) : Int := if a < b then -1 else if b < a then 1 else 0
theorem cmpN_lt {a b : Nat} (h : a < b) : cmpN a b = -1 := by rw [cmpN, if_pos h]
theorem cmpN_gt {a b : Nat} (h : b < a) : cmpN a b = 1 := by rw [cmpN, if_neg (by omega), if_pos h]
theorem cmpN_eq (a : Nat) : cmpN a a = 0 := by rw [cmpN, if_neg (by omega), if_neg (by omega)]
theorem drawn {B : Nat} {a w : World} (h : Below B a w) (n : Nat) : Below B a (w.drewN n) := ⟨h.os, h.tape, h.output, h.size, h.block⟩
set_option maxHeartbeats 800000 in
theorem compared_any (x y : Nat) (A A' : Option Addr) (n n' c c' : Nat) (w : World) (hx : LI .i64 w (.slice A n c) (digs 10000 x)) (hy : LI .i64 w (.slice A' n' c') (digs 10000 y)) (hn : n ≤ 1000000) (hn' : n' ≤ 1000000) :
    Calls Try.prog 58 #[.slice A n c, .slice A' n' c'] w fun e w' => e = .returned (.int .i64 (cmpN x y)) ∧ Below w.heap.size w w' := by
  have HX := Lib.hid hx
  have HY := Lib.hid hy
  have h1 := hx.len.1
  have h2 := hy.len.1
  by_cases hlt : n < n'
  · have HE := Lib.hid (cmpN_lt (digs_len_lt (B := 10000) (a := x) (b := y) (by decide) (by omega)))
    clear hx hy h1 h2
    rw [HE.out]
    go_enter Try.func58, Try.ntmps58
    go_wp2
    go_ret
    exact ⟨rfl, Below.refl _ _⟩
  · by_cases hgt : n' < n
    · have HE := Lib.hid (cmpN_gt (digs_len_lt (B := 10000) (a := y) (b := x) (by decide) (by omega)))
      clear hx hy h1 h2
      rw [HE.out]
      go_enter Try.func58, Try.ntmps58
      go_wp2
      go_ret
      exact ⟨rfl, Below.refl _ _⟩
    · obtain rfl : n' = n := by omega
      have H1 := Lib.hid h1
      have H2 := Lib.hid h2
      clear hx hy h1 h2
      go_enter Try.func58, Try.ntmps58
      go_wp2
      go_loopw [5] (fun i wr => ∃ z : Int, -1 ≤ z ∧ z < (n' : Int) ∧ i = .int .i64 z ∧ (digs 10000 x).drop (z + 1).toNat = (digs 10000 y).drop (z + 1).toNat ∧ Below w.heap.size w wr) (fun i _ => (intOf i + 1).toNat)
      case atStart => exact ⟨(n' : Int) - 1, by omega, by omega, rfl, by rw [List.drop_of_length_le (by rw [H1.out]; omega), List.drop_of_length_le (by rw [H2.out]; omega)], Below.refl _ _⟩
      case round =>
        obtain ⟨z, hz1, hz2, rfl, hd, hb⟩ := hrel
        have HD := Lib.hid hd
        have HB := Lib.hid hb
        clear hd hb
        by_cases hz : 0 ≤ z
        · obtain ⟨j, rfl⟩ : ∃ j : Nat, z = (j : Int) := ⟨z.toNat, by omega⟩
          obtain ⟨b, off, rfl, hb1, hc1⟩ := (HX.out.new HB.out).at_ (j := j) (by omega)
          obtain ⟨b', off', rfl, hb2, hc2⟩ := (HY.out.new HB.out).at_ (j := j) (by omega)
          have HD2 := Lib.hid (show (digs 10000 x).drop (j + 1) = (digs 10000 y).drop (j + 1) from HD.out)
          obtain ⟨X, hX⟩ : ∃ X : Int, (((digs 10000 x).getD j 0 : Nat) : Int) = X := ⟨_, rfl⟩
          obtain ⟨Y, hY⟩ : ∃ Y : Int, (((digs 10000 y).getD j 0 : Nat) : Int) = Y := ⟨_, rfl⟩
          rw [hX] at hc1
          rw [hY] at hc2
          have HVX := Lib.hid hX
          have HVY := Lib.hid hY
          clear hX hY HD
          have hj1 : (0 : Int) ≤ (j : Int) := by omega
          have hj2 : (j : Int) < (n' : Int) := by omega
          by_cases hXY : X < Y
          · have HC := Lib.hid (cmpN_lt (by
              have := val_cmp (B := 10000) (a := digs 10000 x) (b := digs 10000 y) (by decide) (dig_digs (by decide) x) HD2.out (by have := HVX.out; have := HVY.out; omega)
              rwa [val_digs (by decide), val_digs (by decide)] at this))
            go_wp2
            go_quiet (fail)
            go_wp2
            go_ret
            exact ⟨ret_int HC.out.symm, by exact ⟨HB.out.os, HB.out.tape, HB.out.output, HB.out.size, HB.out.block⟩⟩
          · by_cases hYX : Y < X
            · have HC := Lib.hid (cmpN_gt (by
                have := val_cmp (B := 10000) (a := digs 10000 y) (b := digs 10000 x) (by decide) (dig_digs (by decide) y) HD2.out.symm (by have := HVX.out; have := HVY.out; omega)
                rwa [val_digs (by decide), val_digs (by decide)] at this))
              go_wp2
              go_quiet (fail)
              go_wp2
              go_quiet (fail)
              go_wp2
              go_ret
              exact ⟨ret_int HC.out.symm, by exact ⟨HB.out.os, HB.out.tape, HB.out.output, HB.out.size, HB.out.block⟩⟩
            · have HE := Lib.hid (show (digs 10000 x).drop j = (digs 10000 y).drop j by
                have e1 := H1.out
                have e2 := H2.out
                have ev : (digs 10000 x).getD j 0 = (digs 10000 y).getD j 0 := by have := HVX.out; have := HVY.out; omega
                rw [List.drop_eq_getElem_cons (l := digs 10000 x) (i := j) (by omega), List.drop_eq_getElem_cons (l := digs 10000 y) (i := j) (by omega), HD2.out]
                rw [List.getD_eq_getElem?_getD, List.getElem?_eq_getElem (l := digs 10000 x) (i := j) (by omega), List.getD_eq_getElem?_getD, List.getElem?_eq_getElem (l := digs 10000 y) (i := j) (by omega)] at ev
                exact congrArg (· :: _) ev)
              go_wp2
              go_quiet (fail)
              go_wp2
              go_quiet (fail)
              go_wp2
              go_roundw
              case rel => exact ⟨(j : Int) - 1, by omega, by omega, rfl, by rw [show ((j : Int) - 1 + 1).toNat = j by omega]; exact HE.out, by exact ⟨HB.out.os, HB.out.tape, HB.out.output, HB.out.size, HB.out.block⟩⟩
              case measure => simp [intOf]
        · obtain rfl : z = -1 := by omega
          go_wp2
          go_ret
          refine ⟨?_, HB.out⟩
          have : x = y := by
            have := HD.out
            rw [show ((-1 : Int) + 1).toNat = 0 by omega, List.drop_zero, List.drop_zero] at this
            rw [← val_digs (B := 10000) (by decide) x, this, val_digs (by decide)]
          rw [this, cmpN_eq]
          rfl
end Go.Proofs.Ytpcliampffeknaa
