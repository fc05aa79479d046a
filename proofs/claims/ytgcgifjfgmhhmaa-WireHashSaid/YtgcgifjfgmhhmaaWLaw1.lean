/- The walk of WireSizes: the law returns true for every input; what lay lies as it lay. -/
import Derived.Test.YtgcgifjfgmhhmaaWLv
namespace Go.Proofs.Ytgcgifjfgmhhmaa
open Go.RowKit

theorem bound_any (v : Int) (w : World) (hv : (Lit.int .i64 v).wf = true) :
    Calls Try.prog 28 #[.int .i64 v, .int .i64 63] w fun e w' => e = .returned (.int .i64 ((aroundI v 127 : Nat) - 63)) ∧ w = w' := by
  have hk := aroundI_lt v (n := 127) (by omega)
  have HV := Lib.hid hv
  go_enter Try.func28, Try.ntmps28
  go_wp2_with fail
  refine (around_any v 127 w (by omega) (by omega) HV.out).mono ?_
  rintro e w' ⟨rfl, rfl⟩
  obtain ⟨k, hkk⟩ : ∃ k, aroundI v 127 = k := ⟨_, rfl⟩
  rw [hkk] at hk ⊢
  have HK := Lib.hid hkk
  clear hkk
  go_wp2
  go_ret
  rw [HK.out]
  exact ⟨rfl, rfl⟩
/-- The groups that are needed for a number, none for 0. -/
def cnt (r : Nat) : Nat := if r = 0 then 0 else (uv r).length
theorem uv_cnt (k : Nat) : (uv k).length = 1 + cnt (k / 128) := by
  unfold cnt
  by_cases h : k < 128
  · rw [uv_lt h, if_pos (by omega)]; rfl
  · rw [uv_ge (by omega), if_neg (by omega), List.length_cons, Nat.add_comm]
theorem cnt_pos {r : Nat} (h : 0 < r) : cnt r = 1 + cnt (r / 128) := by
  rw [← uv_cnt, cnt, if_neg (by omega)]

set_option maxHeartbeats 1600000 in
theorem wireSizes_walk (u : Nat) (n sh : Int) (w : World) (hu : u < 18446744073709551616) (hn : (Lit.int .i64 n).wf = true) (hs : (Lit.int .i64 sh).wf = true) :
    Calls Try.prog 8 #[.int .u64 u, .int .i64 n, .int .i64 sh] w fun e w' => e = .returned (.bool true) ∧ Below w.heap.size w w' := by
  have HU := Lib.hid hu
  have HN := Lib.hid hn
  have HS := Lib.hid hs
  obtain ⟨z, hz⟩ : ∃ z : Int, (u : Int) = z := ⟨_, rfl⟩
  have HZ := Lib.hid hz
  have hzl : 0 ≤ z := by omega
  have hzr : z < 18446744073709551616 := by omega
  rw [hz]
  clear hu hn hs hz
  go_enter Try.func8, Try.ntmps8
  go_wp2_with fail
  refine (around_any sh 64 w (by omega) (by omega) HS.out).mono ?_
  rintro e w' ⟨rfl, rfl⟩
  have hk := aroundI_lt sh (n := 64) (by omega)
  generalize aroundI sh 64 = s at hk
  obtain ⟨K, hK⟩ : ∃ K, u / 2 ^ s = K := ⟨_, rfl⟩
  obtain ⟨q, hq⟩ : ∃ q : Int, z / 2 ^ s = q := ⟨_, rfl⟩
  have hqK : (K : Int) = q := by rw [← hq, ← hK, ← HZ.out]; push_cast; rfl
  have hKu : K < 18446744073709551616 := by rw [← hK]; exact Nat.lt_of_le_of_lt (Nat.div_le_self _ _) HU.out
  have hql : 0 ≤ q := by omega
  have hqr : q < 18446744073709551616 := by omega
  have HQ := Lib.hid hqK
  have HKU := Lib.hid hKu
  clear hK hqK hKu
  go_wp2_with fail
  clear hq
  go_loop [8, 9] (fun sz rest => ∃ (a r : Nat), a ≤ 10 ∧ sz = .int .i64 a ∧ rest = .int .u64 (r : Int) ∧ a + cnt r = (uv K).length ∧ r ≤ K) (fun _ rest => (intOf rest).toNat)
  case atStart => exact ⟨1, K / 128, by omega, rfl, by have := HQ.out; exact congrArg _ (by omega), (uv_cnt K).symm, Nat.div_le_self _ _⟩
  case round =>
    obtain ⟨a, r, ha, rfl, rfl, hlen, hr⟩ := hrel
    obtain ⟨y, hy⟩ : ∃ y : Int, (r : Int) = y := ⟨_, rfl⟩
    have HY := Lib.hid hy
    have hyl : 0 ≤ y := by omega
    have hyr : y < 18446744073709551616 := by have := HKU.out; omega
    have HR := Lib.hid hr
    rw [hy]
    have HL := Lib.hid hlen
    clear hlen hr hy
    by_cases hpos : 0 < y
    · have hc := cnt_pos (r := r) (by have := HY.out; omega)
      have hu10 := uv_len10 HKU.out
      have HC := Lib.hid (show a + 1 + cnt (r / 128) = (uv K).length by have := HL.out; omega)
      have ha2 : a + 1 ≤ 10 := by have := HL.out; omega
      clear hc hu10
      go_wp2
      go_round
      case rel => exact ⟨a + 1, r / 128, ha2, by go_num, by have := HY.out; exact congrArg _ (by omega), HC.out, by have := HR.out; omega⟩
      case measure => simp [intOf]; omega
    · have HA := Lib.hid (show (uv K).length = a by
        have := HL.out
        rw [show r = 0 by have := HY.out; omega] at this
        exact this.symm)
      rw [← HQ.out]
      go_wp2_with fail
      refine (wuint_any K w.heap.size [] _ HKU.out (Wr.zero w) (by decide)).mono ?_
      rintro e w1 ⟨rfl, hw1, hb1⟩
      have HB1 := Lib.hid (((Below.refl w.heap.size w).alloc (Nat.le_refl _) (.cells #[.slice none 0 0] 32)).trans hb1)
      have HW1 := Lib.hid hw1
      clear hw1 hb1
      go_wp2_with fail
      refine (bound_any n _ HN.out).mono ?_
      rintro e w' ⟨rfl, rfl⟩
      have hkn := aroundI_lt n (n := 127) (by omega)
      obtain ⟨m, hm⟩ : ∃ m : Int, ((aroundI n 127 : Nat) : Int) - 63 = m := ⟨_, rfl⟩
      have hm1 : -63 ≤ m := by omega
      have hm2 : m ≤ 63 := by omega
      rw [hm]
      have HO1 := Lib.hid (show ok64 m from ⟨by omega, by omega⟩)
      have HO2 := Lib.hid (show ok64 (-m) from ⟨by omega, by omega⟩)
      have HZ1 := Lib.hid (show (uv (zz m)).length = 1 by rw [uv_lt (by unfold zz; split <;> omega)]; rfl)
      have HZ2 := Lib.hid (show (uv (zz (-m))).length = 1 by rw [uv_lt (by unfold zz; split <;> omega)]; rfl)
      clear hm hkn
      go_wp2_with fail
      refine (wint_any m w1.heap.size [] _ HO1.out (Wr.zero w1) (by decide)).mono ?_
      rintro e w2 ⟨rfl, hw2, hb2⟩
      have HC2 := Lib.hid (((Below.refl w1.heap.size w1).alloc (Nat.le_refl _) (.cells #[.slice none 0 0] 32)).trans hb2)
      have HX2 := Lib.hid hw2
      clear hw2 hb2
      go_wp2_with fail
      refine (wint_any (-m) w1.heap.size _ _ HO2.out HX2.out (by rw [List.nil_append, HZ1.out]; decide)).mono ?_
      rintro e w3 ⟨rfl, hw3, hb3⟩
      have HC3 := Lib.hid (HC2.out.trans hb3)
      have HX3 := Lib.hid hw3
      clear hw3 hb3 HC2 HX2
      go_wp2_with fail
      refine (wbool_any (decide (0 < m)) w1.heap.size _ _ HX3.out (by rw [List.nil_append, List.length_append, HZ1.out, HZ2.out]; decide)).mono ?_
      rintro e w4 ⟨rfl, hw4, hb4⟩
      have HC4 := Lib.hid (HC3.out.trans hb4)
      have HX4 := Lib.hid hw4
      have HL4 := Lib.hid (show (bI (([] : List UInt8) ++ uv (zz m) ++ uv (zz (-m)) ++ [if decide (0 < m) = true then 1 else 0])).length = 3 by
        rw [bI_len, List.nil_append, List.length_append, List.length_append, HZ1.out, HZ2.out]; rfl)
      have HW4 := Lib.hid (HW1.out.new HC4.out)
      clear hw4 hb4 HC3 HX3
      go_wp2_with fail
      refine (wdone_any w.heap.size _ w4 HW4.out (by rw [List.nil_append, HA.out]; omega)).mono ?_
      rintro e w5 ⟨a5, c5, rfl, hown5, hb5⟩
      have HC5 := Lib.hid (HC4.out.trans (hb5.mono HC4.out.size))
      have HX5 := Lib.hid (HX4.out.new hb5)
      rw [bI_len, List.nil_append, HA.out]
      clear hown5 hb5 HC4 HX4
      go_wp2_with fail
      refine (wdone_any w1.heap.size _ w5 HX5.out (by rw [← bI_len, HL4.out]; decide)).mono ?_
      rintro e w6 ⟨a6, c6, rfl, hown6, hb6⟩
      have HC6 := Lib.hid (HC5.out.trans (hb6.mono HC5.out.size))
      rw [HL4.out]
      clear hown6 hb6 HC5
      go_wp2_with fail
      refine (lives_any w6).mono ?_
      rintro e w7 ⟨rfl, hb7⟩
      have HC7 := Lib.hid (HC6.out.trans (hb7.mono HC6.out.size))
      go_wp2
      go_ret
      exact ⟨rfl, HB1.out.trans (HC7.out.mono HB1.out.size)⟩
theorem wireSizes_law (a0 a1 a2 : Int) (w0 : (Lit.int .u64 a0).wf = true) (w1 : (Lit.int .i64 a1).wf = true) (w2 : (Lit.int .i64 a2).wf = true) (w : World) :
    Calls Try.prog 8 #[.int .u64 a0, .int .i64 a1, .int .i64 a2] w fun e w' => e = .returned (.bool true) ∧ Below w.heap.size w w' := by
  obtain ⟨u, rfl, hu⟩ := u64_of_wf w0
  exact wireSizes_walk u a1 a2 w hu w1 w2
end Go.Proofs.Ytgcgifjfgmhhmaa
