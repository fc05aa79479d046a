/- The contracts of the reader's Int, Bool, length, part, Text, Raw, End and of Read. -/
import Derived.Test.YtgcgifjfgmhhmaaWRu
namespace Go.Proofs.Ytgcgifjfgmhhmaa
open Go.RowKit

set_option maxHeartbeats 800000 in
theorem rdint_any (g : Nat) (ok : Nat → Prop) (s : St) (w : World) (h : Rdr 77 w g ok s) :
    Calls Try.prog 46 #[.pointer (some ⟨g, 0, none⟩)] w fun e w' => e = .returned (.int .i64 (intS s).1) ∧ Rdr 77 w' g ok (intS s).2 ∧ Own1 g w w' := by
  have hz := uintS_lt s
  have HB := Lib.hid (fun y hy => back_walk _ y hy hz)
  have HS := Lib.hid (show intS s = (back (uintS s).1, (uintS s).2) from rfl)
  obtain ⟨z, he⟩ : ∃ z, (uintS s).1 = z := ⟨_, rfl⟩
  have HZ := Lib.hid he
  rw [he] at HB
  obtain ⟨y, hy⟩ : ∃ y : Int, (z : Int) = y := ⟨_, rfl⟩
  have h1 : 0 ≤ y := by omega
  have h2 : y < 18446744073709551616 := by omega
  have HY := Lib.hid hy
  clear hz he hy
  go_enter Try.func46, Try.ntmps46
  go_wp2_with fail
  refine (ruint_any g ok s w h).mono ?_
  rw [HZ.out, HY.out]
  rintro e w1 ⟨rfl, hw1, hk1⟩
  go_wp2
  go_ret
  rw [HS.out]
  refine ⟨ret_i ((HB.out y HY.out).trans (by rw [HZ.out])), hw1, hk1⟩
set_option maxHeartbeats 800000 in
theorem rdbool_any (g : Nat) (ok : Nat → Prop) (s : St) (w : World) (h : Rdr 77 w g ok s) :
    Calls Try.prog 48 #[.pointer (some ⟨g, 0, none⟩)] w fun e w' => e = .returned (.bool (boolS s).1) ∧ Rdr 77 w' g ok (boolS s).2 ∧ Own1 g w w' := by
  have HR := Lib.hid h
  clear h
  by_cases he : s.e = 0
  · obtain ⟨l, e⟩ := s
    dsimp only at he
    subst he
    cases l with
    | nil =>
      go_enter Try.func48, Try.ntmps48
      go_wp2_with fail
      refine (next_any g ok _ w HR.out).mono ?_
      rw [show nextS ⟨[], 0⟩ = (0, ⟨[], 3⟩) from rfl]
      rintro e w1 ⟨rfl, hw1, hk1⟩
      go_wp2
      go_ret
      exact ⟨rfl, hw1, hk1⟩
    | cons c r =>
      have hcl := c.toNat_lt
      obtain ⟨x, hx⟩ : ∃ x : Int, (c.toNat : Int) = x := ⟨_, rfl⟩
      have hx0 : 0 ≤ x := by omega
      have hx1 : x < 256 := by omega
      have HX := Lib.hid hx
      by_cases hb : 1 < x
      · have HS := Lib.hid (show boolS ⟨c :: r, 0⟩ = (false, ⟨r, 2⟩) by rw [boolS, if_neg (by simp)]; simp only; rw [if_pos (by omega)])
        have hne : (x == 1) = false := beq_eq_false_iff_ne.2 (by omega)
        clear hx hcl
        go_enter Try.func48, Try.ntmps48
        go_wp2_with fail
        refine (next_any g ok _ w HR.out).mono ?_
        rw [show nextS ⟨c :: r, 0⟩ = (c.toNat, ⟨r, 0⟩) from rfl]
        rintro e w1 ⟨rfl, hw1, hk1⟩
        rw [HX.out]
        go_wp2_with fail
        refine (fail_any 2 g ok ⟨r, 0⟩ w1 hw1 (by decide)).mono ?_
        rw [show failS ⟨r, 0⟩ 2 = ⟨r, 2⟩ from rfl]
        rintro e w2 ⟨rfl, hw2, hk2⟩
        go_wp2
        go_ret
        rw [HS.out]
        exact ⟨rfl, hw2, hk1.trans hk2⟩
      · have HS := Lib.hid (show boolS ⟨c :: r, 0⟩ = (x == 1, ⟨r, 0⟩) by
          rw [boolS, if_neg (by simp)]; simp only; rw [if_neg (by omega)]
          congr 1
          rw [← hx]
          by_cases h1 : c.toNat = 1
          · rw [h1]; rfl
          · rw [decide_eq_false h1]; exact (beq_eq_false_iff_ne.2 (by omega)).symm)
        clear hx hcl
        go_enter Try.func48, Try.ntmps48
        go_wp2_with fail
        refine (next_any g ok _ w HR.out).mono ?_
        rw [show nextS ⟨c :: r, 0⟩ = (c.toNat, ⟨r, 0⟩) from rfl]
        rintro e w1 ⟨rfl, hw1, hk1⟩
        rw [HX.out]
        go_wp2
        go_ret
        rw [HS.out]
        exact ⟨rfl, hw1, hk1⟩
  · have HS := Lib.hid (show boolS s = (false, s) by rw [boolS, if_pos he])
    have HE := Lib.hid he
    clear he
    go_enter Try.func48, Try.ntmps48
    go_wp2_with fail
    refine (next_any g ok _ w HR.out).mono ?_
    rw [nextS_err HE.out]
    rintro e w1 ⟨rfl, hw1, hk1⟩
    go_wp2
    go_ret
    rw [HS.out]
    exact ⟨rfl, hw1, hk1⟩
/-- What is left, whatever the state. -/
theorem lenS_bd (s : St) : (lenS s).1 < 18446744073709551616 := by
  unfold lenS
  split
  · show 0 < _
    decide
  · exact uintS_lt s
set_option maxHeartbeats 800000 in
theorem rdlen_any (g : Nat) (ok : Nat → Prop) (s : St) (w : World) (h : Rdr 77 w g ok s) :
    Calls Try.prog 63 #[.pointer (some ⟨g, 0, none⟩)] w fun e w' => e = .returned (.int .i64 (lenS s).1) ∧ Rdr 77 w' g ok (lenS s).2 ∧ Own1 g w w' := by
  have HR := Lib.hid h
  clear h
  have hz := uintS_lt s
  obtain ⟨z, he⟩ : ∃ z, (uintS s).1 = z := ⟨_, rfl⟩
  have HZ := Lib.hid he
  rw [he] at hz
  obtain ⟨y, hy⟩ : ∃ y : Int, (z : Int) = y := ⟨_, rfl⟩
  have h1 : 0 ≤ y := by omega
  have h2 : y < 18446744073709551616 := by omega
  have HY := Lib.hid hy
  clear hz he hy
  go_enter Try.func63, Try.ntmps63
  go_wp2_with fail
  refine (ruint_any g ok s w HR.out).mono ?_
  rw [HZ.out, HY.out]
  rintro e w1 ⟨rfl, hw1, hk1⟩
  have HW := Lib.hid hw1
  obtain ⟨a, n, c, l, hr, hi, hl, hn, ho⟩ := hw1
  have hc0 := hr.cell0
  obtain ⟨hnl, hnc⟩ := hi.len
  rw [bI_len] at hnl
  have hn2 : n ≤ 100000 := by omega
  by_cases hgt : (n : Int) < y
  · have HS := Lib.hid (show lenS s = (0, failS (uintS s).2 3) by
      by_cases e0 : (uintS s).2.e = 0
      · rw [lenS, if_pos (by rw [← hl e0, ← hnl, HZ.out]; have := HY.out; omega), failS, if_pos e0]
      · have := uintS_zero e0
        rw [HZ.out] at this
        have := HY.out
        omega)
    clear hr hi hl hn ho hnl hnc
    go_wp2_with fail
    refine (fail_any 3 g ok _ w1 HW.out (by decide)).mono ?_
    rintro e w2 ⟨rfl, hw2, hk2⟩
    go_wp2
    go_ret
    rw [HS.out]
    exact ⟨rfl, hw2, hk1.trans hk2⟩
  · have HS := Lib.hid (show lenS s = uintS s by
      by_cases e0 : (uintS s).2.e = 0
      · rw [lenS, if_neg (by rw [← hl e0, ← hnl, HZ.out]; have := HY.out; omega)]
      · rw [lenS, if_neg (by rw [uintS_zero e0]; omega)])
    clear hr hi hl hn ho hnl hnc
    go_wp2
    go_ret
    rw [HS.out]
    refine ⟨?_, HW.out, hk1⟩
    rw [HZ.out, HY.out]
    rfl
set_option maxHeartbeats 800000 in
theorem rdpart_any (g : Nat) (ok : Nat → Prop) (s : St) (w : World) (h : Rdr 77 w g ok s) :
    Calls Try.prog 54 #[.pointer (some ⟨g, 0, none⟩)] w fun e w' => (∃ a n c, e = .returned (.slice a n c) ∧ In .u8 w' ok (.slice a n c) (bI (partS s).1)) ∧ Rdr 77 w' g ok (partS s).2 ∧ Own1 g w w' := by
  have HR := Lib.hid h
  clear h
  obtain ⟨m, hm⟩ : ∃ m, (lenS s).1 = m := ⟨_, rfl⟩
  have HM := Lib.hid hm
  clear hm
  go_enter Try.func54, Try.ntmps54
  go_wp2_with fail
  refine (rdlen_any g ok s w HR.out).mono ?_
  rw [HM.out]
  rintro e w1 ⟨rfl, hw1, hk1⟩
  obtain ⟨a, n, c, l, hr, hi, hl, hn, ho⟩ := hw1
  have hc0 := hr.cell0
  have hf0 := hr.fr0
  obtain ⟨hnl, hnc⟩ := hi.len
  rw [bI_len] at hnl
  have hmn : m ≤ n := by
    by_cases e0 : (lenS s).2.e = 0
    · have := lenS_le s
      rw [HM.out, ← hl e0] at this
      omega
    · have := lenS_e s e0
      rw [HM.out] at this
      omega
  obtain ⟨a1, hs1, hi1⟩ := hi.to_ (P := Try.prog) (ty := 24) Try.underlying24 size_byte m hmn
  obtain ⟨a2, c2, hs2, hi2⟩ := hi.from_ (P := Try.prog) (ty := 24) Try.underlying24 size_byte m hmn m rfl
  have HI1 := Lib.hid hi1
  have HI2 := Lib.hid hi2
  have HRR := Lib.hid hr
  have HL := Lib.hid hl
  have HNL := Lib.hid hnl
  have HO := Lib.hid ho
  have HN := Lib.hid hn
  have HMN := Lib.hid hmn
  clear hr hi hl hn ho hnl hi1 hi2 hnc hmn
  go_wp2
  go_ret
  have hkp : Own1 g w1 (w1.setCell ⟨g, 0, none⟩ (.slice a2 (n - m) c2)) := (Kp.refl (· = g) w1).setCell (p := ⟨g, 0, none⟩) (fun _ => rfl) _
  have hx : ∀ b, b < w1.heap.size → ok b → ¬ b = g := fun b _ hb e => HO.out (e ▸ hb)
  have e1 : (partS s).1 = l.take m := by
    unfold partS
    by_cases e0 : (lenS s).2.e = 0
    · rw [if_neg (by simpa using e0), HM.out, HL.out e0]
    · have := lenS_e s e0
      rw [HM.out] at this
      rw [if_pos e0, this, List.take_zero]
  refine ⟨⟨a1, m, c, rfl, ?_⟩, ⟨a2, n - m, c2, l.drop m, ?_, ?_, ?_, ?_, HO.out⟩, hk1.trans hkp⟩
  · rw [e1]
    have := HI1.out.kp hkp hx
    rw [bI, ← List.map_take] at this
    exact this
  · have := HRR.out.set0 (.slice a2 (n - m) c2)
    have e2 : (partS s).2.e = (lenS s).2.e := by
      unfold partS
      by_cases e0 : (lenS s).2.e = 0
      · rw [if_neg (by simpa using e0), e0]
      · rw [if_pos e0]
    rw [e2]
    exact this
  · have := HI2.out.kp hkp hx
    rw [bI, ← List.map_drop] at this
    exact this
  · intro h0
    unfold partS at h0 ⊢
    by_cases e0 : (lenS s).2.e = 0
    · rw [if_neg (by simpa using e0), HM.out, HL.out e0]
    · rw [if_pos e0] at h0
      exact absurd h0 e0
  · rw [List.length_drop]
    have := HN.out
    omega
set_option maxHeartbeats 800000 in
theorem rdtext_any (g : Nat) (ok : Nat → Prop) (s : St) (w : World) (h : Rdr 77 w g ok s) :
    Calls Try.prog 47 #[.pointer (some ⟨g, 0, none⟩)] w fun e w' => e = .returned (.string ⟨(partS s).1.toArray⟩) ∧ Rdr 77 w' g ok (partS s).2 ∧ Own1 g w w' := by
  go_enter Try.func47, Try.ntmps47
  go_wp2_with fail
  refine (rdpart_any g ok s w h).mono ?_
  rintro e w1 ⟨⟨a, n, c, rfl, hi⟩, hw1, hk1⟩
  have hconv := hi.text (P := Try.prog) (src := 24) (dst := 9) (e := 5) Try.underlying24 Try.underlying5 Try.underlying9
  obtain ⟨str, hstr⟩ : ∃ str, ByteArray.mk (partS s).1.toArray = str := ⟨_, rfl⟩
  rw [hstr] at hconv
  have HS := Lib.hid hstr
  clear hi hstr
  go_wp2
  go_ret
  rw [HS.out]
  exact ⟨rfl, hw1, hk1⟩
set_option maxHeartbeats 800000 in
theorem rdraw_any (g : Nat) (ok : Nat → Prop) (s : St) (w : World) (h : Rdr 77 w g ok s) (hl : (partS s).1.length ≤ 1000000) :
    Calls Try.prog 33 #[.pointer (some ⟨g, 0, none⟩)] w fun e w' => (∃ a n c, e = .returned (.slice a n c) ∧ n = (partS s).1.length ∧ w'.ownsRow w.heap.size 5 1 (.slice a n c) n (vs .u8 (bI (partS s).1))) ∧ Rdr 77 w' g ok (partS s).2 ∧ Own1 g w w' := by
  have HL := Lib.hid hl
  have HR := Lib.hid h
  clear hl h
  go_enter Try.func33, Try.ntmps33
  go_wp2_with fail
  refine (rdpart_any g ok s w HR.out).mono ?_
  rintro e w1 ⟨⟨a, n, c, rfl, hi⟩, hw1, hk1⟩
  have hn := hi.len.1
  rw [bI_len] at hn
  have HN := Lib.hid hn
  have HW := Lib.hid hw1
  have HI := Lib.hid hi
  clear hn hw1 hi
  go_wp2_with fail
  refine (clone_any (partS s).1 a n c ok w1 HN.out.symm (by have := HL.out; have := HN.out; omega) HI.out).mono ?_
  rintro e w2 ⟨a2, c2, rfl, hown, hb⟩
  go_wp2
  go_ret
  rw [bI_len] at hown ⊢
  exact ⟨⟨a2, _, c2, rfl, rfl, own_base hown hk1.size⟩, HW.out.new hb, hk1.step (Kp.of_below hb (fun _ _ h => h)) (fun k hk h => by have := hk1.size; omega)⟩
def endS (s : St) : Nat := if s.e = 0 then (if s.l = [] then 0 else 2) else s.e
set_option maxHeartbeats 800000 in
theorem rdend_any (g : Nat) (ok : Nat → Prop) (s : St) (w : World) (h : Rdr 77 w g ok s) :
    Calls Try.prog 24 #[.pointer (some ⟨g, 0, none⟩)] w fun e w' => e = .returned (.int .i64 (endS s)) ∧ w = w' := by
  obtain ⟨a, n, c, l, hr, hi, hl, hn, ho⟩ := h
  have hc0 := hr.cell0
  have hc1 := hr.cell1
  have hnl := hi.len.1
  rw [bI_len] at hnl
  by_cases e0 : s.e = 0
  · have hl0 := hl e0
    rw [e0] at hc1
    by_cases hz : n = 0
    · have HE := Lib.hid (show endS s = 0 by rw [endS, if_pos e0, if_pos (by rw [← hl0]; exact List.eq_nil_of_length_eq_zero (by omega))])
      subst hz
      clear hr hi hl hn hnl hl0 e0 ho
      go_enter Try.func24, Try.ntmps24
      go_wp2
      go_ret
      rw [HE.out]
      exact ⟨rfl, rfl⟩
    · have HE := Lib.hid (show endS s = 2 by rw [endS, if_pos e0, if_neg (fun e => hz (by rw [hnl, hl0, e]; rfl))])
      have hlt : 0 < n := by omega
      clear hr hi hl hn hnl hl0 e0 ho hz
      go_enter Try.func24, Try.ntmps24
      go_wp2
      go_ret
      rw [HE.out]
      exact ⟨rfl, rfl⟩
  · have HE := Lib.hid (show endS s = s.e by rw [endS, if_neg e0])
    have hne : ((s.e : Int) == 0) = false := beq_eq_false_iff_ne.2 (by omega)
    clear hr hi hl hn hnl e0 ho
    go_enter Try.func24, Try.ntmps24
    go_wp2
    go_ret
    rw [HE.out]
    exact ⟨rfl, rfl⟩
set_option maxHeartbeats 800000 in
theorem read_new (l : List UInt8) (a : Option Addr) (n c : Nat) (ok : Nat → Prop) (w : World) (hn : l.length = n) (hl : n ≤ 100000) (h : In .u8 w ok (.slice a n c) (bI l)) :
    Calls Try.prog 20 #[.slice a n c] w fun e w' => (∃ g, e = .returned (.pointer (some ⟨g, 0, none⟩)) ∧ Rdr 77 w' g (fun b => w.heap.size ≤ b ∧ b < g) ⟨l, 0⟩ ∧ w.heap.size ≤ g) ∧ Below w.heap.size w w' := by
  have HI := Lib.hid h
  have HN := Lib.hid hn
  clear h hn
  go_enter Try.func20, Try.ntmps20
  go_wp2_with fail
  refine (clone_any l a n c ok w HN.out (by omega) HI.out).mono ?_
  rintro e w1 ⟨a1, c1, rfl, hown, hb⟩
  have hi := In.own hown
  have hz := hb.size
  have HH := Lib.hid hi
  clear hown hi
  go_wp2
  go_ret
  refine ⟨⟨w1.heap.size, rfl, ?_, hz⟩, hb.alloc hz _⟩
  refine ⟨a1, _, c1, l, World.alloc_heap_new w1 _, ?_, fun _ => rfl, by rw [HN.out]; exact hl, fun h => Nat.lt_irrefl _ h.2⟩
  exact (HH.out.mono (fun b h1 h2 => ⟨h2, h1⟩)).new ((Below.refl _ w1).alloc (Nat.le_refl _) _)
end Go.Proofs.Ytgcgifjfgmhhmaa
