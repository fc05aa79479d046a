/- Contracts of the program's integers: Small, Mul, Add, Sub. -/
import Derived.Test.YtpcliampffeknaaNPd
namespace Go.Proofs.Ytpcliampffeknaa
open Go.RowKit
attribute [local go_sem ↓] Go.wp_at_zero Go.wp_at_succ

def isSm (x : Int) : Bool := decide (-9223372036854775808 ≤ x ∧ x ≤ 9223372036854775807)
def smV (x : Int) : Int := if isSm x = true then x else 0
/-- What Small returns. -/
def RetS (x : Int) (w : World) (e : Ending) (w' : World) : Prop := e = .returned (.tuple #[.int .i64 (smV x), .bool (isSm x)]) ∧ Below w.heap.size w w'
theorem val_len2 {l : List Nat} (h : l.length ≤ 2) : l.getD 0 0 + 4294967296 * l.getD 1 0 = val 4294967296 l := by
  match l, h with
  | [], _ => rfl
  | [a], _ => simp [val]
  | [a, b], _ => simp [val]
set_option maxRecDepth 100000 in
set_option maxHeartbeats 1600000 in
theorem psmall_any (x : Int) (neg : Bool) (A : Option Addr) (n c : Nat) (w : World) (hx : PI w neg A n c x) (hn : n ≤ 900000) :
    Calls Try.prog 20 #[.agg #[.bool neg, .slice A n c]] w (RetS x w) := by
  have hb0 := (Below.refl w.heap.size w).alloc (Nat.le_refl _) (.cells #[.bool neg, .slice A n c] 33)
  have HB := Lib.hid hb0
  have HX := Lib.hid (hx.2.2.new hb0)
  have HS := Lib.hid hx.1
  have hl := hx.2.1
  have HL := Lib.hid hl
  have hge := digs_ge (B := 4294967296) (n := x.natAbs) (by decide)
  rw [hl] at hge
  clear hx hb0 hl
  by_cases h2 : 2 < n
  · have hsm : isSm x = false := by
      unfold isSm
      rw [decide_eq_false_iff_not]
      intro h
      have h1 : x.natAbs ≠ 0 := by
        intro h0
        have := HL.out
        rw [h0, digs_zero, List.length_nil] at this
        omega
      have h3 := hge h1
      have h4 := Nat.pow_le_pow_right (show 0 < 4294967296 by decide) (show 2 ≤ n - 1 by omega)
      have e : (4294967296 : Nat) ^ 2 = 18446744073709551616 := by decide
      omega
    have hsv : smV x = 0 := by unfold smV; rw [hsm]; rfl
    have HE := Lib.hid (And.intro hsm hsv)
    clear hsm hsv hge
    go_enter Try.func20, Try.ntmps20
    go_wp2
    go_ret2
    exact ⟨by rw [HE.out.1, HE.out.2]; rfl, HB.out⟩
  · have HLO := Lib.hid (lowest_any _ A n c _ (dig_digs (by decide) x.natAbs) HX.out (by omega))
    rw [val_len2 (by rw [HL.out]; omega), val_pi] at HLO
    clear hge
    obtain ⟨m, hm⟩ : ∃ m : Int, ((x.natAbs : Nat) : Int) = m := ⟨_, rfl⟩
    rw [hm] at HLO
    have hm0 : 0 ≤ m := by omega
    have hml : m < 18446744073709551616 := by
      have h1 := digs_lt (B := 4294967296) (by decide) x.natAbs
      rw [HL.out] at h1
      have h4 := Nat.pow_le_pow_right (show 0 < 4294967296 by decide) (show n ≤ 2 by omega)
      have e : (4294967296 : Nat) ^ 2 = 18446744073709551616 := by decide
      omega
    cases neg
    · have hx0 : ¬ x < 0 := by have := HS.out; simpa using this.symm
      have hxm : x = m := by omega
      by_cases hle : m ≤ 9223372036854775807
      · have HE := Lib.hid (show isSm x = true ∧ smV x = m by
          have h : isSm x = true := by unfold isSm; exact decide_eq_true (by omega)
          exact ⟨h, by unfold smV; rw [if_pos h, hxm]⟩)
        clear hm hxm hx0
        go_enter Try.func20, Try.ntmps20
        go_wp2_with fail
        refine HLO.out.mono ?_
        rintro e w' ⟨rfl, rfl⟩
        go_wp2
        go_ret2
        exact ⟨by rw [HE.out.1, HE.out.2]; rfl, HB.out⟩
      · have HE := Lib.hid (show isSm x = false ∧ smV x = 0 by
          have h : isSm x = false := by unfold isSm; exact decide_eq_false (by omega)
          exact ⟨h, by unfold smV; rw [h]; rfl⟩)
        clear hm hxm hx0
        go_enter Try.func20, Try.ntmps20
        go_wp2_with fail
        refine HLO.out.mono ?_
        rintro e w' ⟨rfl, rfl⟩
        go_wp2
        go_ret2
        exact ⟨by rw [HE.out.1, HE.out.2]; rfl, HB.out⟩
    · have hx0 : x < 0 := by have := HS.out; simpa using this.symm
      have hxm : x = -m := by omega
      by_cases hle : m ≤ 9223372036854775808
      · have HE := Lib.hid (show isSm x = true ∧ smV x = -m by
          have h : isSm x = true := by unfold isSm; exact decide_eq_true (by omega)
          exact ⟨h, by unfold smV; rw [if_pos h, hxm]⟩)
        by_cases hmx : m = 9223372036854775808
        · subst hmx
          clear hm hxm hx0
          go_enter Try.func20, Try.ntmps20
          go_wp2_with fail
          refine HLO.out.mono ?_
          rintro e w' ⟨rfl, rfl⟩
          go_wp2
          go_ret2
          exact ⟨by
            rw [HE.out.1, HE.out.2]
            show Ending.returned (.tuple #[.int .i64 (wrap64 (-wrap64 9223372036854775808)), .bool true]) = _
            rw [show wrap64 (-wrap64 9223372036854775808) = -9223372036854775808 by unfold wrap64; omega], HB.out⟩
        · have hml2 : m ≤ 9223372036854775807 := by omega
          clear hm hxm hx0 hmx
          go_enter Try.func20, Try.ntmps20
          go_wp2_with fail
          refine HLO.out.mono ?_
          rintro e w' ⟨rfl, rfl⟩
          go_wp2
          go_ret2
          exact ⟨by rw [HE.out.1, HE.out.2]; rfl, HB.out⟩
      · have HE := Lib.hid (show isSm x = false ∧ smV x = 0 by
          have h : isSm x = false := by unfold isSm; exact decide_eq_false (by omega)
          exact ⟨h, by unfold smV; rw [h]; rfl⟩)
        clear hm hxm hx0
        go_enter Try.func20, Try.ntmps20
        go_wp2_with fail
        refine HLO.out.mono ?_
        rintro e w' ⟨rfl, rfl⟩
        go_wp2
        go_ret2
        exact ⟨by rw [HE.out.1, HE.out.2]; rfl, HB.out⟩
end Go.Proofs.Ytpcliampffeknaa
