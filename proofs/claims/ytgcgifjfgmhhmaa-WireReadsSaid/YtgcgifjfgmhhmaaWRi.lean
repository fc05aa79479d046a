/- The contract of the generic list and of the reader's Ints. -/
import Derived.Test.YtgcgifjfgmhhmaaWRr
namespace Go.Proofs.Ytgcgifjfgmhhmaa
open Go.RowKit

theorem upTo_succ (s : St) (i : Nat) : upTo s (i + 1) = ((upTo s i).1 ++ [(intS (upTo s i).2).1], (intS (upTo s i).2).2) := rfl
/-- The list behind i rounds: what was read, then zeros. -/
def rowAt (s : St) (n i : Nat) : List Int := (upTo s i).1 ++ List.replicate (n - i) 0
theorem rowAt_len (s : St) (n i : Nat) (h : i ≤ n) : (rowAt s n i).length = n := by
  rw [rowAt, List.length_append, upTo_length, List.length_replicate]; omega
theorem rowAt_set (s : St) (n i : Nat) (h : i < n) : (rowAt s n i).set i (intS (upTo s i).2).1 = rowAt s n (i + 1) := by
  rw [rowAt, rowAt, upTo_succ, List.set_append_right _ _ (by rw [upTo_length]; exact Nat.le_refl _), upTo_length, Nat.sub_self]
  obtain ⟨k, hk⟩ : ∃ k, n - i = k + 1 := ⟨n - i - 1, by omega⟩
  rw [hk, show n - (i + 1) = k by omega, List.replicate_succ, List.set_cons_zero, List.append_assoc]
  rfl
theorem made_vs (n : Nat) : (madeCells (Value.int .i64 0).cells (n * 1)).toList = vs .i64 (List.replicate n 0) := by
  rw [Nat.mul_one]
  simp only [madeCells, vs, List.map_replicate]
  rw [List.eq_replicate_iff]
  refine ⟨by simp, fun b hb => ?_⟩
  simp only [Array.toList_map, List.mem_map] at hb
  obtain ⟨x, _, rfl⟩ := hb
  show (#[Value.int .i64 0] : Array Value)[x % 1]! = _
  rw [Nat.mod_one]
  rfl
set_option maxHeartbeats 1600000 in
theorem list_any (g : Nat) (ok : Nat → Prop) (s : St) (w : World) (h : Rdr 77 w g ok s) (hl : (lenS s).1 ≤ 100000) (hok : ∀ b, ok b → b < w.heap.size) :
    Calls Try.prog 55 #[.pointer (some ⟨g, 0, none⟩), .func (.func 46) #[.pointer (some ⟨g, 0, none⟩)] #[]] w fun e w' =>
      (∃ a n c, e = .returned (.slice a n c) ∧ n = (intsS s).1.length ∧ w'.ownsRow w.heap.size 3 1 (.slice a n c) n (vs .i64 (intsS s).1)) ∧ Rdr 77 w' g ok (intsS s).2 ∧ Own1 g w w' := by
  obtain ⟨i0, hi0, hz0, hz1, hz2⟩ := info_parts int_info
  have HR := Lib.hid h
  have HG := Lib.hid h.lt
  clear h
  obtain ⟨m, hm⟩ : ∃ m, (lenS s).1 = m := ⟨_, rfl⟩
  rw [hm] at hl
  have HM := Lib.hid hm
  clear hm
  go_enter Try.func55, Try.ntmps55
  go_wp2_with fail
  refine (rdlen_any g ok s w HR.out).mono ?_
  rw [HM.out]
  rintro e w1 ⟨rfl, hw1, hk1⟩
  have HW := Lib.hid hw1
  have HB1 := Lib.hid (show i0.bytes * m ≤ 281474976710656 by rw [hz2]; omega)
  have HB2 := Lib.hid (show m ≤ maxLen by unfold maxLen; omega)
  have HB3 := Lib.hid hk1.size
  clear hw1
  go_wp2_with (at_make; refine wpList_make_full _ rfl _ _ 22 rfl w.heap.size 3 i0 (.int .i64 0) 1 Try.underlying22 hi0 hz0 hz1 .i64 .i64 _ _ m rfl rfl rfl rfl HB1.out HB2.out HB3.out ?_; intro w2 hown hgrow)
  obtain ⟨G, hG⟩ : ∃ G, w1.heap.size = G := ⟨_, rfl⟩
  rw [hG] at hown ⊢
  have HGG := Lib.hid (show w.heap.size ≤ G by rw [← hG]; exact hk1.size)
  have hk2 : Own1 g w w2 := hk1.grown hgrow (fun _ h => by cases h)
  have hw2 := HW.out.kp (t := fun _ => False) ((Kp.refl _ w1).grown hgrow (fun _ h => by cases h)) (fun e => e) (fun _ _ _ e => e)
  rw [made_vs] at hown
  obtain ⟨s1, hs1⟩ : ∃ s1, (lenS s).2 = s1 := ⟨_, rfl⟩
  rw [hs1] at hw2
  have HS1 := Lib.hid hs1
  have HW2 := Lib.hid hw2
  have HO2 := Lib.hid hown
  have HOK := Lib.hid hok
  clear hG hgrow hw2 hown hs1 HW hok
  go_loopw [12] (fun i wr => ∃ j : Nat, j ≤ m ∧ i = .int .i64 j ∧ wr.ownsRow w.heap.size 3 1 (.slice (some ⟨G, 0, none⟩) m m) m (vs .i64 (rowAt s1 m j)) ∧ Rdr 77 wr g ok (upTo s1 j).2 ∧ (0 < j → (upTo s1 j).2.e = 0) ∧ Own1 g w wr) (fun i _ => m - (intOf i).toNat)
  case atStart => exact ⟨0, Nat.zero_le _, rfl, HO2.out, HW2.out, fun h => absurd h (by omega), hk2⟩
  case round =>
    obtain ⟨j, hj, rfl, hown, hrd, he, hk⟩ := hrel
    have HOW := Lib.hid hown
    have HRD := Lib.hid hrd
    have HE := Lib.hid he
    clear hown hrd he
    by_cases hlt : j < m
    · obtain ⟨st, hst⟩ : ∃ st, (upTo s1 j).2 = st := ⟨_, rfl⟩
      have HST := Lib.hid hst
      rw [hst] at HRD
      clear hst
      go_wp2_with fail
      refine (rdint_any g ok st wr HRD.out).mono ?_
      rintro e w3 ⟨rfl, hw3, hk3⟩
      have hcl : (upTo s1 (j + 1)) = ((upTo s1 j).1 ++ [(intS st).1], (intS st).2) := by rw [upTo_succ, HST.out]
      have hG1 : ¬ (G = g) := by have := HG.out; have := HGG.out; omega
      have hrow3 : w3.ownsRow w.heap.size 3 1 (.slice (some ⟨G, 0, none⟩) m m) m (vs .i64 (rowAt s1 m j)) := by
        refine ⟨HOW.out.1, ?_⟩
        rcases HOW.out.2 with h0 | ⟨b, cap, cur, h1, h2, h3, h4⟩
        · exact .inl h0
        · refine .inr ⟨b, cap, cur, h1, h2, (hk3.block b (Array.getElem?_eq_some_iff.1 h3).1 (fun e => ?_)).trans h3, h4⟩
          have := HG.out
          omega
      have hcell : w3.cell? ⟨G, j, none⟩ = some (.int .i64 ((rowAt s1 m j).getD j 0)) := by
        rw [hrow3.cellAt j (by omega)]
        exact vs_get (by rw [List.getD_eq_getElem?_getD, List.getElem?_eq_getElem (by rw [rowAt_len _ _ _ (by omega)]; exact hlt)]; rfl)
      have hfr := hrow3.frozenAt j
      obtain ⟨hst4, hg4⟩ := hrow3.stored j (.int .i64 (intS st).1)
      obtain ⟨old, hold⟩ : ∃ v, (rowAt s1 m j).getD j 0 = v := ⟨_, rfl⟩
      rw [hold] at hcell
      have hrs : (rowAt s1 m j).set j (intS st).1 = rowAt s1 m (j + 1) := by rw [← HST.out]; exact rowAt_set s1 m j hlt
      have hk4 : Kp (· = G) w3 (w3.setCell ⟨G, j, none⟩ (.int .i64 (intS st).1)) := (Kp.refl (· = G) w3).setCell (p := ⟨G, j, none⟩) (fun _ => rfl) _
      have hw4 := hw3.kp hk4 (fun e => hG1 e.symm) (fun b _ hb e => by have := HOK.out b hb; have := HGG.out; omega)
      have hk5 : Own1 g w (w3.setCell ⟨G, j, none⟩ (.int .i64 (intS st).1)) := (hk.trans hk3).step hk4 (fun k h1 h2 => by have := HGG.out; omega)
      have hc1 := hw4.e_cell
      have HROW := Lib.hid (show (w3.setCell ⟨G, j, none⟩ (.int .i64 (intS st).1)).ownsRow w.heap.size 3 1 (.slice (some ⟨G, 0, none⟩) m m) m (vs .i64 (rowAt s1 m (j + 1))) by
        rw [← hrs, vs, List.map_set]
        exact hst4)
      have HW4 := Lib.hid hw4
      have HK5 := Lib.hid hk5
      have HCL := Lib.hid hcl
      have hG0 : G ≠ g := hG1
      clear hst4 hg4 hold hrs hk4 hw4 hk5 hcl hw3 hk3 hrow3 hG1
      by_cases he0 : (intS st).2.e = 0
      · rw [he0] at hc1
        have HE0 := Lib.hid he0
        clear he0
        generalize (intS st).1 = v at *
        go_wp2
        go_roundw
        case rel => exact ⟨j + 1, by omega, by go_num, HROW.out, by rw [HCL.out]; exact HW4.out, fun _ => by rw [HCL.out]; exact HE0.out, HK5.out⟩
        case measure => simp [intOf]; omega
      · have HE0 := Lib.hid he0
        have hne : (((intS st).2.e : Int) != 0) = true := by rw [bne_iff_ne]; omega
        clear he0
        generalize (intS st).1 = v at *
        go_wp2
        go_ret
        have hstay : (upTo s1 m).2 = (intS st).2 := by
          rw [upTo_stay (i := j + 1) (by rw [HCL.out]; exact HE0.out) (by omega), HCL.out]
        have hres : intsS s = ([], (intS st).2) := by
          rw [intsS, HM.out, HS1.out, hstay, if_pos HE0.out]
        rw [hres]
        exact ⟨⟨none, 0, 0, rfl, rfl, World.ownsRow_nil _ _ _ _⟩, HW4.out, HK5.out⟩
    · obtain rfl : j = m := by omega
      go_wp2
      go_ret
      have hrow : rowAt s1 j j = (upTo s1 j).1 := by rw [rowAt, Nat.sub_self]; simp
      have hres : intsS s = upTo s1 j := by
        rw [intsS, HM.out, HS1.out]
        by_cases h0 : 0 < j
        · rw [if_neg (by simpa using HE.out h0)]
        · obtain rfl : j = 0 := by omega
          split <;> rfl
      rw [hres]
      exact ⟨⟨_, j, j, rfl, (upTo_length s1 j).symm, by rw [← hrow]; exact HOW.out⟩, HRD.out, hk⟩
set_option maxHeartbeats 800000 in
theorem rdints_any (g : Nat) (ok : Nat → Prop) (s : St) (w : World) (h : Rdr 77 w g ok s) (hl : (lenS s).1 ≤ 100000) (hok : ∀ b, ok b → b < w.heap.size) :
    Calls Try.prog 35 #[.pointer (some ⟨g, 0, none⟩)] w fun e w' =>
      (∃ a n c, e = .returned (.slice a n c) ∧ n = (intsS s).1.length ∧ w'.ownsRow w.heap.size 3 1 (.slice a n c) n (vs .i64 (intsS s).1)) ∧ Rdr 77 w' g ok (intsS s).2 ∧ Own1 g w w' := by
  have HOK := Lib.hid hok
  clear hok
  go_enter Try.func35, Try.ntmps35
  go_wp2_with fail
  refine (list_any g ok s w h hl HOK.out).mono ?_
  rintro e w1 ⟨⟨a, n, c, rfl, hn, hown⟩, hw1, hk1⟩
  have HN := Lib.hid hn
  clear hn
  go_wp2
  go_ret
  exact ⟨⟨a, n, c, rfl, HN.out, hown⟩, hw1, hk1⟩
end Go.Proofs.Ytgcgifjfgmhhmaa
