/- Contracts of the program's points: Whole, the closures of nearest. Conditions: as each statement has them. -/
import Derived.Test.YtfmccalkfagafaaYPC
import Derived.Test.YtfmccalkfagafaaYPE
namespace Go.Proofs.Ytfmccalkfagafaa
open Go.RowKit
attribute [local go_sem ↓] Go.wp_at_zero Go.wp_at_succ
/-- Is p/q at most the step's limit? -/
def neB (p q : Int) (t : Int) : Bool := decide (2 * p ≤ (2 * (t - 1073741825) + 1) * q)
theorem half_odd (k : Int) : mkP (2 * k + 1) 2 = 2 * k + 1 ∧ mkQ (2 * k + 1) 2 = 2 ∧ mkC 2 = 0 := by
  have hg : Nat.gcd (2 * k + 1).natAbs 2 = 1 := by
    have h : (2 * k + 1).natAbs % 2 = 1 := by omega
    rw [Nat.gcd_comm, Nat.gcd_rec, h]
    decide
  have h : mkD (2 * k + 1) 2 = 1 := by
    unfold mkD
    rw [if_neg (by decide), show (2 : Int).natAbs = 2 from rfl, hg]
    rfl
  refine ⟨?_, ?_, rfl⟩
  · rw [mkP, if_neg (by decide), h, Int.ediv_one]
  · rw [mkQ, if_neg (by decide), h]; rfl
theorem cmp_le (a b : Int) : decide (a ≤ b) = decide (cmpI a b ≤ 0) := by
  rcases cmpI_cases a b with ⟨h, h1⟩ | ⟨h, h1⟩ | ⟨h, h1⟩ <;> rw [h1] <;> simp <;> omega
set_option maxRecDepth 100000 in
set_option maxHeartbeats 3200000 in
theorem near1_any (p q t : Int) (s0 : Bool) (A0 : Option Addr) (n0 c0 : Nat) (t0 : Bool) (B0 : Option Addr) (m0 d0 : Nat) (g : Nat) (w : World) (ha : P4 31 w g (.bool s0) (.slice A0 n0 c0) (.bool t0) (.slice B0 m0 d0)) (hx : PF w s0 A0 n0 c0 t0 B0 m0 d0 p q) (hl : 0 < q ∧ p.natAbs < lim ∧ q.natAbs < lim) (ht : 0 ≤ t ∧ t ≤ 2147483650) :
    Calls Try.prog 76 #[.int .i64 t, .pointer (some ⟨g, 0, none⟩)] w fun e w' => e = .returned (.bool (neB p q t)) ∧ Below w.heap.size w w' := by
  obtain ⟨ht1, ht2⟩ := ht
  have HA := Lib.hid ha
  have HX := Lib.hid hx
  have HL := Lib.hid hl
  clear ha hx hl
  obtain ⟨y, hy⟩ : ∃ y, t - 1073741825 = y := ⟨_, rfl⟩
  have hy1 : -1073741825 + t = y := by omega
  have hw1 : IntKind.i64.wrap (-1073741825 + t) = y := by rw [hy1]; exact IntWalk.i64_in _ (by omega)
  have hw2 : IntKind.i64.wrap (2 * y) = 2 * y := IntWalk.i64_in _ (by omega)
  have hw3 : IntKind.i64.wrap (2 * y + 1) = 2 * y + 1 := IntWalk.i64_in _ (by omega)
  have HW := Lib.hid (show (Lit.int .i64 (2 * y + 1)).wf = true from WalkArith.wf_i64 (by omega))
  have HNE := Lib.hid (show neB p q t = decide (cmpI (p * 2) ((2 * y + 1) * q) ≤ 0) by rw [← cmp_le]; unfold neB; rw [hy, Int.mul_comm 2 p])
  clear hy hy1
  go_enter Try.func76, Try.ntmps76
  go_wp2_with fail
  refine (fof_any (2 * y + 1) 2 w HW.out (by decide)).mono ?_
  rw [(half_odd y).1, (half_odd y).2.1, (half_odd y).2.2]
  rintro e w1 ⟨s1, A1, n1, c1, t1, B1, m1, d1, rfl, hr1, hb1⟩
  obtain ⟨x1, hx1⟩ : ∃ z, w1.alloc (.cells #[.bool s1, .slice A1 n1 c1, .bool t1, .slice B1 m1 d1] 31) = z := ⟨_, rfl⟩
  have HK1 := Lib.hid (show Below w1.heap.size w1 x1 by rw [← hx1]; exact (Below.refl _ _).alloc (Nat.le_refl _) _)
  have HQ1 := Lib.hid (show P4 31 x1 w1.heap.size (.bool s1) (.slice A1 n1 c1) (.bool t1) (.slice B1 m1 d1) by rw [← hx1]; exact P4.lit _ _ _ _ _ _)
  have HR1 := Lib.hid (hr1.new HK1.out)
  have HB1 := Lib.hid (bt hb1 HK1.out)
  have HA1 := Lib.hid (HA.out.new HB1.out)
  have HX1 := Lib.hid (HX.out.new HB1.out)
  clear hr1 hb1
  obtain ⟨a0, a1, a2, a3⟩ := HA1.out.cells
  obtain ⟨q0, q1, q2, q3⟩ := HQ1.out.cells
  go_wp2_with fail
  refine (fcompare_any p q (2 * y + 1) 2 s0 t0 s1 t1 A0 B0 A1 B1 n0 c0 m0 d0 n1 c1 m1 d1 x1 HX1.out HR1.out HL.out.1 (by decide) HL.out.2.1 HL.out.2.2 (i64_lim HW.out) (i64_lim (by decide))).mono ?_
  rcases cmpI_cases (p * 2) ((2 * y + 1) * q) with ⟨_, hc⟩ | ⟨_, hc⟩ | ⟨_, hc⟩
  all_goals
    have HV := Lib.hid (show neB p q t = decide (cmpI (p * 2) ((2 * y + 1) * q) ≤ 0) from HNE.out)
    rw [hc] at HV ⊢
    rintro e w2 ⟨rfl, hb2⟩
    have HB2 := Lib.hid (bt HB1.out hb2)
    clear hb2 hc
    go_wp2
    go_ret
    exact ⟨by rw [HV.out]; rfl, HB2.out⟩
set_option maxRecDepth 100000 in
set_option maxHeartbeats 3200000 in
theorem search_any (p q : Int) (s0 : Bool) (A0 : Option Addr) (n0 c0 : Nat) (t0 : Bool) (B0 : Option Addr) (m0 d0 : Nat) (g : Nat) (w : World) (ha : P4 31 w g (.bool s0) (.slice A0 n0 c0) (.bool t0) (.slice B0 m0 d0)) (hx : PF w s0 A0 n0 c0 t0 B0 m0 d0 p q) (hl : 0 < q ∧ p.natAbs < lim ∧ q.natAbs < lim) :
    Calls Try.prog 75 #[.int .i64 2147483650, .func (.func 76) #[] #[.pointer (some ⟨g, 0, none⟩)]] w fun e w' => (∃ k : Int, e = .returned (.int .i64 k) ∧ (0 ≤ k ∧ k ≤ 2147483650) ∧ (k = 0 ∨ neB p q (k - 1) = false) ∧ (k = 2147483650 ∨ neB p q k = true)) ∧ Below w.heap.size w w' := by
  have HA := Lib.hid ha
  have HX := Lib.hid hx
  have HL := Lib.hid hl
  clear ha hx hl
  go_enter Try.func75, Try.ntmps75
  go_wp2_with fail
  go_loopw [5, 6] (fun s5 s6 wr => ∃ (i j : Int), s5 = .int .i64 i ∧ s6 = .int .i64 j ∧ (0 ≤ i ∧ i ≤ j ∧ j ≤ 2147483650) ∧ Hid ((i = 0 ∨ neB p q (i - 1) = false) ∧ (j = 2147483650 ∨ neB p q j = true)) ∧ Below w.heap.size w wr) (fun s5 s6 _ => (intOf s6 - intOf s5).toNat)
  case atStart => exact ⟨0, 2147483650, rfl, rfl, ⟨by omega, by omega, by omega⟩, Lib.hid ⟨.inl rfl, .inl rfl⟩, Below.refl _ _⟩
  case round =>
    obtain ⟨i, j, rfl, rfl, ⟨h1, h2, h3⟩, hh, hb⟩ := hrel
    have HB := Lib.hid hb
    clear hb
    by_cases hlt : i < j
    · obtain ⟨m, hm⟩ : ∃ m, (i + j) / 2 = m := ⟨_, rfl⟩
      have hw1 : IntKind.i64.wrap (i + j) = i + j := IntWalk.i64_in _ (by omega)
      have hw2 : IntKind.u64.wrap (i + j) = i + j := by rw [IntKind.wrap_u64]; omega
      have hm1 : i ≤ m ∧ m < j := by omega
      have hw3 : IntKind.i64.wrap m = m := IntWalk.i64_in _ (by omega)
      have hw4 : IntKind.i64.wrap (m + 1) = m + 1 := IntWalk.i64_in _ (by omega)
      go_wp2_with fail
      refine (near1_any p q m s0 A0 n0 c0 t0 B0 m0 d0 g wr (HA.out.new HB.out) (HX.out.new HB.out) HL.out (by omega)).mono ?_
      obtain ⟨b, hbv⟩ : ∃ b, neB p q m = b := ⟨_, rfl⟩
      have HV := Lib.hid hbv
      rw [hbv]
      clear hbv
      rintro e w2 ⟨rfl, hb2⟩
      have HB2 := Lib.hid (bt HB.out hb2)
      clear hb2
      obtain ⟨hm2, hm3⟩ := hm1
      cases b with
      | true =>
        go_wp2
        go_roundw
        case rel => exact ⟨i, m, rfl, by first | rfl | rw [hm], ⟨h1, by omega, by omega⟩, Lib.hid ⟨hh.out.1, .inr HV.out⟩, HB2.out⟩
        case measure => simp [intOf]; omega
      | false =>
        go_wp2
        go_roundw
        case rel => exact ⟨m + 1, j, by first | rfl | rw [hm], rfl, ⟨by omega, by omega, h3⟩, Lib.hid ⟨.inr (by rw [show m + 1 - 1 = m by omega]; exact HV.out), hh.out.2⟩, HB2.out⟩
        case measure => simp [intOf]; omega
    · have he : i = j := by omega
      go_wp2
      go_ret
      exact ⟨⟨j, rfl, ⟨by omega, by omega⟩, by first | exact hh.out.1 | (rw [← he]; exact hh.out.1), hh.out.2⟩, HB.out⟩
end Go.Proofs.Ytfmccalkfagafaa
