/- The contract of the reference reader's Ints. -/
import Derived.Test.YtgcgifjfgmhhmaaWQi
namespace Go.Proofs.Ytgcgifjfgmhhmaa
open Go.RowKit

set_option maxHeartbeats 1600000 in
theorem rrints_any (g : Nat) (ok : Nat → Prop) (s : St) (w : World) (h : Rdr 47 w g ok s) (hl : (lenS s).1 ≤ 100000) (hok : ∀ b, ok b → b < w.heap.size) :
    Calls Try.prog 53 #[.pointer (some ⟨g, 0, none⟩)] w fun e w' =>
      (∃ a n c, e = .returned (.slice a n c) ∧ n = (intsS s).1.length ∧ w'.ownsRow w.heap.size 3 1 (.slice a n c) n (vs .i64 (intsS s).1)) ∧ Rdr 47 w' g ok (intsS s).2 ∧ Own1 g w w' := by
  obtain ⟨i0, hi0, hz0, hz1, hz2⟩ := info_parts int_info
  have HR := Lib.hid h
  have HG := Lib.hid h.lt
  have HOK := Lib.hid hok
  clear h hok
  obtain ⟨m, hm⟩ : ∃ m, (lenS s).1 = m := ⟨_, rfl⟩
  rw [hm] at hl
  have HM := Lib.hid hm
  clear hm
  go_enter Try.func53, Try.ntmps53
  go_wp2_with fail
  refine (rrlen_any g ok s w HR.out).mono ?_
  rw [HM.out]
  rintro e w1 ⟨rfl, hw1, hk1⟩
  obtain ⟨s1, hs1⟩ : ∃ s1, (lenS s).2 = s1 := ⟨_, rfl⟩
  rw [hs1] at hw1
  have HS1 := Lib.hid hs1
  have HW := Lib.hid hw1
  have HK1 := Lib.hid hk1
  clear hw1 hs1 hk1
  go_wp2_with fail
  go_loopw [4, 5] (fun v i wr => ∃ j : Nat, j ≤ m ∧ i = .int .i64 j ∧ wr.ownsRow w.heap.size 3 1 v j (vs .i64 (upTo s1 j).1) ∧ Rdr 47 wr g ok (upTo s1 j).2 ∧ Own1 g w wr) (fun _ i _ => m - (intOf i).toNat)
  case atStart => exact ⟨0, by omega, rfl, World.ownsRow_nil _ _ _ _, HW.out, HK1.out⟩
  case round =>
    obtain ⟨j, hj, rfl, hown, hrd, hk⟩ := hrel
    have HOW := Lib.hid hown
    have HRD := Lib.hid hrd
    have HK := Lib.hid hk
    have hc1 := hrd.e_cell
    obtain ⟨aa, cc, rfl⟩ := own_form hown
    clear hown hrd hk
    by_cases hlt : j < m
    · by_cases e0 : (upTo s1 j).2.e = 0
      · rw [e0] at hc1
        obtain ⟨st, hst⟩ : ∃ st, (upTo s1 j).2 = st := ⟨_, rfl⟩
        have HST := Lib.hid hst
        rw [hst] at HRD e0
        have HE0 := Lib.hid e0
        clear hst e0
        go_wp2_with fail
        refine (rrint_any g ok st wr HRD.out).mono ?_
        rintro e w3 ⟨rfl, hw3, hk3⟩
        have HCL := Lib.hid (show (upTo s1 (j + 1)) = ((upTo s1 j).1 ++ [(intS st).1], (intS st).2) by rw [upTo_succ, HST.out])
        have HW3 := Lib.hid hw3
        have HK3 := Lib.hid (HK.out.trans hk3)
        have HOW3 := Lib.hid (own_kp HOW.out hk3 (fun b hb e => by have := HG.out; omega))
        have HO2 := Lib.hid (show j + 1 ≤ maxLen by unfold maxLen; omega)
        have HO3 := Lib.hid (show (j + 1) * 8 ≤ 140737488355328 by omega)
        have HO4 := Lib.hid (show w.heap.size ≤ w3.heap.size from HK3.out.size)
        clear hw3 hk3
        go_wp2_with (at_builtin; refine wpList_append_own _ rfl _ _ 22 rfl w.heap.size 3 i0 (.int .i64 0) 1 8 Try.underlying22 hi0 hz0 hz1 hz2 rfl (by decide) _ _ _ rfl (HOW3.out.alloc _) ⟨w3.heap.size, 0, none⟩ 1 1 [_] rfl rfl (cell_one_new _ _ _) (one_cells _ _) HO2.out HO3.out (alloc_ge HO4.out) ?_; intro v' w5 hown' hgrow _)
        have hk5 : Kp (fun b => w.heap.size ≤ b) w3 w5 := ((Kp.refl _ w3).alloc _).grown hgrow (fun b hb _ => own_block_ge HOW3.out b hb)
        have hw5 := HW3.out.kp hk5 (fun e => by have := HG.out; omega) (fun b _ hb e => by have := HOK.out b hb; omega)
        have HR5 := Lib.hid (show Rdr 47 w5 g ok (upTo s1 (j + 1)).2 by rw [HCL.out]; exact hw5)
        have HK5 := Lib.hid (HK3.out.step hk5 (fun b h1 h2 => by omega))
        have HO5 := Lib.hid (show w5.ownsRow w.heap.size 3 1 v' (j + 1) (vs .i64 (upTo s1 (j + 1)).1) by
          rw [HCL.out, vs_append]
          exact hown')
        clear hown' hgrow hk5 hw5
        go_wp2
        go_roundw
        case rel => exact ⟨j + 1, by omega, by go_num, HO5.out, HR5.out, HK5.out⟩
        case measure => simp [intOf]; omega
      · have hne : (((upTo s1 j).2.e : Int) == 0) = false := beq_eq_false_iff_ne.2 (by omega)
        have hne2 : (((upTo s1 j).2.e : Int) != 0) = true := by rw [bne_iff_ne]; omega
        have hst : (upTo s1 m).2 = (upTo s1 j).2 := upTo_stay e0 hj
        have HS := Lib.hid (show intsS s = ([], (upTo s1 j).2) by rw [intsS, HM.out, HS1.out, hst, if_pos e0])
        clear e0 hst
        go_wp2
        go_ret
        rw [HS.out]
        exact ⟨⟨none, 0, 0, rfl, rfl, World.ownsRow_nil _ _ _ _⟩, HRD.out, HK.out⟩
    · obtain rfl : m = j := by omega
      by_cases e0 : (upTo s1 m).2.e = 0
      · rw [e0] at hc1
        have HS := Lib.hid (show intsS s = upTo s1 m by rw [intsS, HM.out, HS1.out, if_neg (by simpa using e0)])
        clear e0
        go_wp2
        go_ret
        rw [HS.out]
        exact ⟨⟨aa, m, cc, rfl, (upTo_length s1 m).symm, HOW.out⟩, HRD.out, HK.out⟩
      · have hne2 : (((upTo s1 m).2.e : Int) != 0) = true := by rw [bne_iff_ne]; omega
        have HS := Lib.hid (show intsS s = ([], (upTo s1 m).2) by rw [intsS, HM.out, HS1.out, if_pos e0])
        clear e0
        go_wp2
        go_ret
        rw [HS.out]
        exact ⟨⟨none, 0, 0, rfl, rfl, World.ownsRow_nil _ _ _ _⟩, HRD.out, HK.out⟩
end Go.Proofs.Ytgcgifjfgmhhmaa
