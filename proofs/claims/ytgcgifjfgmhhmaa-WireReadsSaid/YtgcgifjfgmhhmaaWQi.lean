/- The contracts of the reference reader's Int, Bool, length, Raw, End. -/
import Derived.Test.YtgcgifjfgmhhmaaWQu
namespace Go.Proofs.Ytgcgifjfgmhhmaa
open Go.RowKit

set_option maxHeartbeats 800000 in
theorem rrint_any (g : Nat) (ok : Nat → Prop) (s : St) (w : World) (h : Rdr 47 w g ok s) :
    Calls Try.prog 50 #[.pointer (some ⟨g, 0, none⟩)] w fun e w' => e = .returned (.int .i64 (intS s).1) ∧ Rdr 47 w' g ok (intS s).2 ∧ Own1 g w w' := by
  go_enter Try.func50, Try.ntmps50
  go_wp2_with fail
  refine (rruint_any g ok s w h).mono ?_
  rintro e w1 ⟨rfl, hw1, hk1⟩
  have HW := Lib.hid hw1
  clear hw1
  go_wp2_with fail
  refine (back_any _ w1 (uintS_lt s)).mono ?_
  rintro e w' ⟨rfl, rfl⟩
  go_wp2
  go_ret
  exact ⟨rfl, HW.out, hk1⟩
set_option maxHeartbeats 1600000 in
theorem rrbool_any (g : Nat) (ok : Nat → Prop) (s : St) (w : World) (h : Rdr 47 w g ok s) :
    Calls Try.prog 51 #[.pointer (some ⟨g, 0, none⟩)] w fun e w' => e = .returned (.bool (boolS s).1) ∧ Rdr 47 w' g ok (boolS s).2 ∧ Own1 g w w' := by
  have HR := Lib.hid h
  obtain ⟨a, n, c, l', hr, hi, hl, hn, ho⟩ := h
  have hc0 := hr.cell0
  have hc1 := hr.cell1
  have hf0 := hr.fr0
  have hf1 := hr.fr1
  have hnl := hi.len.1
  rw [bI_len] at hnl
  by_cases he : s.e = 0
  · obtain ⟨l, e⟩ := s
    dsimp only at he hl
    subst he
    obtain rfl := hl rfl
    cases l' with
    | nil =>
      obtain rfl : n = 0 := hnl
      clear hr hi hl hn ho
      go_enter Try.func51, Try.ntmps51
      go_wp2
      go_ret
      obtain ⟨h1, h2⟩ := HR.out.err1 3 (by decide) []
      exact ⟨rfl, h1, h2⟩
    | cons x0 r =>
      obtain ⟨b, off, rfl, hb1, hb2, hcell⟩ := hi.at_ (j := 0) (by simp [bI])
      obtain ⟨a', c', hsl, hi'⟩ := hi.from_ (P := Try.prog) (ty := 24) Try.underlying24 size_byte 1 (by simp at hnl; omega) 1 rfl
      rw [show (bI (x0 :: r)).getD 0 0 = (x0.toNat : Int) from rfl, Nat.add_zero] at hcell
      rw [show (bI (x0 :: r)).drop 1 = bI r from rfl] at hi'
      have hnz : ((n : Int) == 0) = false := beq_eq_false_iff_ne.2 (by simp at hnl; omega)
      have hlt : 0 < n := by simp at hnl; omega
      have hcl := x0.toNat_lt
      obtain ⟨x, hx⟩ : ∃ x : Int, (x0.toNat : Int) = x := ⟨_, rfl⟩
      rw [hx] at hcell
      have hx0 : 0 ≤ x := by omega
      have hx1 : x < 256 := by omega
      have HR2 := Lib.hid hr
      have HI2 := Lib.hid hi'
      have HL2 := Lib.hid (show r.length ≤ 100000 by simp at hn; omega)
      have HO := Lib.hid ho
      clear hr hi hl hn ho hnl hb1 hb2 hi'
      by_cases hb : 1 < x
      · have HS := Lib.hid (show boolS ⟨x0 :: r, 0⟩ = (false, ⟨r, 2⟩) by rw [boolS, if_neg (by simp)]; simp only; rw [if_pos (by omega)])
        clear hx hcl hsl
        go_enter Try.func51, Try.ntmps51
        go_wp2
        go_ret
        rw [HS.out]
        obtain ⟨h1, h2⟩ := HR.out.err1 2 (by decide) r
        exact ⟨rfl, h1, h2⟩
      · have HS := Lib.hid (show boolS ⟨x0 :: r, 0⟩ = (x == 1, ⟨r, 0⟩) by
          rw [boolS, if_neg (by simp)]; simp only; rw [if_neg (by omega)]
          congr 1
          rw [← hx]
          by_cases h1 : x0.toNat = 1
          · rw [h1]; rfl
          · rw [decide_eq_false h1]; exact (beq_eq_false_iff_ne.2 (by omega)).symm)
        clear hx hcl
        go_enter Try.func51, Try.ntmps51
        go_wp2
        go_ret
        rw [HS.out]
        obtain ⟨h1, h2⟩ := Rdr.left0 HR2.out HI2.out HL2.out HO.out
        exact ⟨rfl, h1, h2⟩
  · have HS := Lib.hid (show boolS s = (false, s) by rw [boolS, if_pos he])
    have hne : ((s.e : Int) == 0) = false := beq_eq_false_iff_ne.2 (by omega)
    have hne2 : ((s.e : Int) != 0) = true := by rw [bne_iff_ne]; omega
    clear he hr hi hl hn ho hnl
    go_enter Try.func51, Try.ntmps51
    go_wp2
    go_ret
    rw [HS.out]
    exact ⟨rfl, HR.out, Kp.refl _ _⟩
set_option maxHeartbeats 1600000 in
theorem rrlen_any (g : Nat) (ok : Nat → Prop) (s : St) (w : World) (h : Rdr 47 w g ok s) :
    Calls Try.prog 62 #[.pointer (some ⟨g, 0, none⟩)] w fun e w' => e = .returned (.int .i64 (lenS s).1) ∧ Rdr 47 w' g ok (lenS s).2 ∧ Own1 g w w' := by
  have HR := Lib.hid h
  clear h
  have hz := uintS_lt s
  obtain ⟨z, he⟩ : ∃ z, (uintS s).1 = z := ⟨_, rfl⟩
  have HZ := Lib.hid he
  rw [he] at hz
  obtain ⟨y, hy⟩ : ∃ y : Int, (z : Int) = y := ⟨_, rfl⟩
  have h1 : 0 ≤ y := by omega
  have h2 : y < 18446744073709551616 := by omega
  have HY := Lib.hid hy
  clear hz he hy
  go_enter Try.func62, Try.ntmps62
  go_wp2_with fail
  refine (rruint_any g ok s w HR.out).mono ?_
  rw [HZ.out, HY.out]
  rintro e w1 ⟨rfl, hw1, hk1⟩
  have HW := Lib.hid hw1
  obtain ⟨a, n, c, l, hr, hi, hl, hn, ho⟩ := hw1
  have hc0 := hr.cell0
  have hc1 := hr.cell1
  have hf1 := hr.fr1
  obtain ⟨hnl, hnc⟩ := hi.len
  rw [bI_len] at hnl
  have hn2 : n ≤ 100000 := by omega
  by_cases e0 : (uintS s).2.e = 0
  · rw [e0] at hc1
    by_cases hgt : (n : Int) < y
    · have HS := Lib.hid (show lenS s = (0, ⟨(uintS s).2.l, 3⟩) by
        rw [lenS, if_pos (by rw [← hl e0, ← hnl, HZ.out]; have := HY.out; omega)])
      clear hr hi hl hn ho hnl hnc e0
      go_wp2
      go_ret
      rw [HS.out]
      obtain ⟨h1, h2⟩ := HW.out.err1 3 (by decide) (uintS s).2.l
      exact ⟨rfl, h1, hk1.trans h2⟩
    · have HS := Lib.hid (show lenS s = uintS s by
        rw [lenS, if_neg (by rw [← hl e0, ← hnl, HZ.out]; have := HY.out; omega)])
      clear hr hi hl hn ho hnl hnc e0
      go_wp2
      go_ret
      rw [HS.out]
      refine ⟨?_, HW.out, hk1⟩
      rw [HZ.out, HY.out]
      rfl
  · have hy0 := uintS_zero e0
    have HS := Lib.hid (show lenS s = (0, (uintS s).2) by
      rw [lenS, if_neg (by rw [hy0]; omega), ← hy0])
    have hne : (((uintS s).2.e : Int) == 0) = false := beq_eq_false_iff_ne.2 (by omega)
    have hne2 : (((uintS s).2.e : Int) != 0) = true := by rw [bne_iff_ne]; omega
    clear hr hi hl hn ho hnl hnc e0 hy0
    go_wp2
    go_ret
    rw [HS.out]
    exact ⟨rfl, HW.out, hk1⟩
set_option maxHeartbeats 1600000 in
theorem rrraw_any (g : Nat) (ok : Nat → Prop) (s : St) (w : World) (h : Rdr 47 w g ok s) :
    Calls Try.prog 52 #[.pointer (some ⟨g, 0, none⟩)] w fun e w' => (∃ a n c, e = .returned (.slice a n c) ∧ In .u8 w' ok (.slice a n c) (bI (partS s).1)) ∧ Rdr 47 w' g ok (partS s).2 ∧ Own1 g w w' := by
  have HR := Lib.hid h
  clear h
  obtain ⟨m, hm⟩ : ∃ m, (lenS s).1 = m := ⟨_, rfl⟩
  have HM := Lib.hid hm
  clear hm
  go_enter Try.func52, Try.ntmps52
  go_wp2_with fail
  refine (rrlen_any g ok s w HR.out).mono ?_
  rw [HM.out]
  rintro e w1 ⟨rfl, hw1, hk1⟩
  have HW := Lib.hid hw1
  obtain ⟨a, n, c, l, hr, hi, hl, hn, ho⟩ := hw1
  have hc0 := hr.cell0
  have hc1 := hr.cell1
  have hf0 := hr.fr0
  obtain ⟨hnl, hnc⟩ := hi.len
  rw [bI_len] at hnl
  by_cases e0 : (lenS s).2.e = 0
  · rw [e0] at hc1
    have hmn : m ≤ n := by
      have := lenS_le s
      rw [HM.out, ← hl e0] at this
      omega
    have HS := Lib.hid (show partS s = (l.take m, ⟨l.drop m, 0⟩) by
      unfold partS
      rw [if_neg (by simpa using e0), HM.out, ← hl e0])
    obtain ⟨a1, hs1, hi1⟩ := hi.to_ (P := Try.prog) (ty := 24) Try.underlying24 size_byte m hmn
    obtain ⟨a2, c2, hs2, hi2⟩ := hi.from_ (P := Try.prog) (ty := 24) Try.underlying24 size_byte m hmn m rfl
    rw [bI_take] at hi1
    rw [show (bI l).drop m = bI (l.drop m) by rw [bI, bI, List.map_drop]] at hi2
    have HI1 := Lib.hid hi1
    have HI2 := Lib.hid hi2
    have HL2 := Lib.hid (show (l.drop m).length ≤ 100000 by rw [List.length_drop]; omega)
    have hr' := hr
    rw [e0] at hr'
    have HR2 := Lib.hid hr'
    have HO := Lib.hid ho
    clear hr hr' hi hl hn ho hnl hi1 hi2 hnc e0 hmn
    go_wp2
    go_ret
    rw [HS.out]
    obtain ⟨h1, h2⟩ := Rdr.left0 HR2.out HI2.out HL2.out HO.out
    exact ⟨⟨a1, m, c, rfl, HI1.out.kp h2 (fun b _ hb e => HO.out (e ▸ hb))⟩, h1, hk1.trans h2⟩
  · have HS := Lib.hid (show partS s = ([], (lenS s).2) by rw [partS, if_pos e0])
    have hne : (((lenS s).2.e : Int) != 0) = true := by rw [bne_iff_ne]; omega
    clear hr hi hl hn ho hnl hnc e0
    go_wp2
    go_ret
    rw [HS.out]
    exact ⟨⟨none, 0, 0, rfl, In.nil⟩, HW.out, hk1⟩
set_option maxHeartbeats 800000 in
theorem rrend_any (g : Nat) (ok : Nat → Prop) (s : St) (w : World) (h : Rdr 47 w g ok s) :
    Calls Try.prog 25 #[.pointer (some ⟨g, 0, none⟩)] w fun e w' => e = .returned (.int .i64 (endS s)) ∧ w = w' := by
  obtain ⟨a, n, c, l, hr, hi, hl, hn, ho⟩ := h
  have hc0 := hr.cell0
  have hc1 := hr.cell1
  have hnl := hi.len.1
  rw [bI_len] at hnl
  by_cases e0 : s.e = 0
  · have hl0 := hl e0
    rw [e0] at hc1
    by_cases hz : n = 0
    · have HE := Lib.hid (show endS s = 0 by rw [endS, if_pos e0, if_pos (by rw [← hl0]; exact List.eq_nil_of_length_eq_zero (by omega))])
      subst hz
      clear hr hi hl hn hnl hl0 e0 ho
      go_enter Try.func25, Try.ntmps25
      go_wp2
      go_ret
      rw [HE.out]
      exact ⟨rfl, rfl⟩
    · have HE := Lib.hid (show endS s = 2 by rw [endS, if_pos e0, if_neg (fun e => hz (by rw [hnl, hl0, e]; rfl))])
      have hlt : 0 < n := by omega
      clear hr hi hl hn hnl hl0 e0 ho hz
      go_enter Try.func25, Try.ntmps25
      go_wp2
      go_ret
      rw [HE.out]
      exact ⟨rfl, rfl⟩
  · have HE := Lib.hid (show endS s = s.e by rw [endS, if_neg e0])
    have hne : ((s.e : Int) == 0) = false := beq_eq_false_iff_ne.2 (by omega)
    clear hr hi hl hn hnl e0 ho
    go_enter Try.func25, Try.ntmps25
    go_wp2
    go_ret
    rw [HE.out]
    exact ⟨rfl, rfl⟩
end Go.Proofs.Ytgcgifjfgmhhmaa
