/- Contracts of the reference's Words, Sum, Bytes and Pair. -/
import Derived.WalkKit
import Derived.Outline
import Derived.WalkSpells
import Derived.WalkLawsBesides
import Derived.LoopTactic
import Derived.Deep.DeepCutAuto
import Derived.Test.YtkcokddhmfomgaaHBase
namespace Go.Proofs.Ytkcokddhmfomgaa
open Go.RowKit

theorem vs_snoc (k : IntKind) (xs : List Int) (x : Int) : vs k (xs ++ [x]) = vs k xs ++ [.int k x] := by simp [vs]
theorem words_step (l : List UInt8) {j n hi t : Nat} (hn : n = l.length) (hlt : 8 * j < n) (h1 : hi ≤ 8 * j + 8) (h2 : hi ≤ n) (h3 : n ≤ hi ∨ 8 * j + 8 ≤ hi) (ht : 8 * j + t = hi) :
    vs .u64 (wI ((wordsL l).take j)) ++ [.int .u64 (leN ((l.drop (hi - t)).take t) : Int)] = vs .u64 (wI ((wordsL l).take (j + 1))) := by
  rw [wordsL_take_succ l (by omega)]
  have e : hi - t = 8 * j := by omega
  have e2 : leN ((l.drop (hi - t)).take t) = leN ((l.drop (8 * j)).take 8) := by
    rw [e]
    rcases h3 with h3 | h3
    · exact leN_take_all (by rw [List.length_drop]; omega) (by omega)
    · rw [show t = 8 by omega]
  rw [e2, show wI ((wordsL l).take j ++ [wordL (l.drop (8 * j))]) = wI ((wordsL l).take j) ++ [((wordL (l.drop (8 * j))).toNat : Int)] from by simp [wI], vs_snoc, wordL_toNat]
theorem leN_drop_lt (l : List UInt8) (k t : Nat) (ht : t ≤ 7) : leN ((l.drop k).take t) ≤ 72057594037927935 := by
  have h := leN_lt ((l.drop k).take t)
  have h2 : ((l.drop k).take t).length ≤ 7 := by rw [List.length_take]; omega
  have h3 : 256 ^ ((l.drop k).take t).length ≤ 256 ^ 7 := Nat.pow_le_pow_right (by omega) h2
  have : (256 : Nat) ^ 7 = 72057594037927936 := by decide
  omega

set_option maxHeartbeats 800000 in
theorem words_any (l : List UInt8) (a : Option Addr) (n c B : Nat) (w : World) (hn : n = l.length) (hl : l.length ≤ 1000) (h : Rd .u8 w B (.slice a n c) (bI l)) (hB : B ≤ w.heap.size) :
    Calls Try.prog 23 #[.slice a n c] w (Fresh .u64 25 (wI (wordsL l)) w) := by
  obtain ⟨i0, hi0, hz0, hz1, hz2⟩ := info_parts word_info
  have H := Lib.hid hn
  have hn1 : n ≤ 1000 := by omega
  clear hn hl
  go_enter Try.func23, Try.ntmps23
  go_wp2
  go_loopw [3, 4] (fun v i wr => ∃ j : Nat, 8 * j ≤ n + 7 ∧ i = .int .i64 (8 * (j : Int)) ∧ wr.ownsRow w.heap.size 25 1 v j (vs .u64 (wI ((wordsL l).take j))) ∧ Below w.heap.size w wr)
    (fun _ i _ => n + 8 - (intOf i).toNat)
  case atStart => exact ⟨0, by omega, rfl, World.ownsRow_nil _ _ _ _, Below.refl _ _⟩
  case round =>
    obtain ⟨j, hj, rfl, hown, hb⟩ := hrel
    by_cases hlt : 8 * j < n
    · obtain ⟨b, off, rfl, hbB, _⟩ := h.at_ (j := 8 * j) (by rw [bI_length, ← H.out]; exact hlt)
      obtain ⟨wo, rfl⟩ : ∃ wo : World, wo = wr := ⟨_, rfl⟩
      have hr := h.below hb hB
      have HC := Lib.hid (show ∀ k, k < l.length → wo.cell? ⟨b, off + k, none⟩ = some (.int .u8 ((bI l).getD k 0)) from fun k hk => by
        obtain ⟨b', off', e, _, hc⟩ := hr.at_ (j := k) (by rw [bI_length]; exact hk)
        injection e with e
        injection e with e1 e2
        rw [e1, e2]; exact hc)
      clear hr
      by_cases h8 : 8 * j + 8 ≤ n
      · obtain ⟨hi, g1, g2⟩ : ∃ hi : Nat, hi ≤ 8 * j + 8 ∧ 8 * j + 8 ≤ hi := ⟨8 * j + 8, by omega, by omega⟩
        have HS := Lib.hid (fun t => words_step l H.out hlt (hi := hi) (t := t) (by omega) (by omega) (.inr g2))
        go_wp2
        go_loop [5, 6] (fun v k => ∃ t : Nat, 8 * j + t ≤ hi ∧ k = .int .i64 ((hi : Int) - 1 - t) ∧ v = .int .u64 (leN ((l.drop (hi - t)).take t) : Nat)) (fun _ k => (intOf k + 1 - 8 * j).toNat)
        case atStart => exact ⟨0, by omega, congrArg _ (by omega), rfl⟩
        case round =>
          obtain ⟨t, ht, rfl, rfl⟩ := hrel
          by_cases hk : 8 * j + t < hi
          · have hll : hi - 1 - t < l.length := by rw [← H.out]; omega
            have hx := leN_drop_lt l (hi - t) t (by omega)
            have hld := leN_drop (l := l) (k := hi - 1 - t) (t := t) hll
            have hcell := HC.out (hi - 1 - t) hll
            rw [bI_get hll] at hcell
            have hc := (l[hi - 1 - t]'hll).toNat_lt
            rw [show hi - 1 - t + 1 = hi - t by omega] at hld
            generalize (l[hi - 1 - t]'hll).toNat = c8 at *
            have HX := Lib.hid (show leN ((l.drop (hi - (t + 1))).take (t + 1)) = c8 + 256 * leN ((l.drop (hi - t)).take t) from by rw [← hld, show hi - (t + 1) = hi - 1 - t by omega])
            generalize leN ((l.drop (hi - t)).take t) = x at hx HX ⊢
            clear hld hll
            go_wp2
            go_round
            case rel =>
              refine ⟨t + 1, by omega, congrArg _ (by omega), ?_⟩
              rw [HX.out]
              exact congrArg _ (by omega)
            case measure => simp [intOf]; omega
          · have HT := Lib.hid (HS.out t (by omega))
            clear HS HC
            have HO1 := Lib.hid (vs_one .u64 [(leN ((l.drop (hi - t)).take t) : Nat)])
            have HO2 := Lib.hid (show j + 1 ≤ maxLen by unfold maxLen; omega)
            have HO3 := Lib.hid (show (j + 1) * 8 ≤ 140737488355328 by omega)
            have HO4 := Lib.hid (show w.heap.size ≤ (wo.alloc (.cells #[.int .u64 (leN ((l.drop (hi - t)).take t) : Nat)] 25)).heap.size by have := hb.size; simp; omega)
            go_wp2_with (at_builtin; refine wpList_append_own _ rfl _ _ 40 rfl w.heap.size 25 i0 (.int .u64 0) 1 8 Try.underlying40 hi0 hz0 hz1 hz2 rfl (by decide) _ _ _ rfl (hown.alloc _) ⟨wo.heap.size, 0, none⟩ 1 1 [.int .u64 (leN ((l.drop (hi - t)).take t) : Nat)] rfl rfl (cell_one_new _ _ _) HO1.out HO2.out HO3.out HO4.out ?_; intro v' w1 hown' hgrow _)
            rw [HT.out] at hown'
            have hb' : Below w.heap.size w w1 := (hb.alloc hb.size _).grown hgrow (by have := hb.size; simp; omega) (own_block_ge hown)
            clear hgrow hown
            go_wp2
            go_roundw
            case rel => exact ⟨j + 1, by omega, congrArg _ (by omega), hown', hb'⟩
            case measure => simp [intOf]; omega
      · obtain ⟨hi, g1, g2⟩ : ∃ hi : Nat, hi ≤ n ∧ n ≤ hi := ⟨n, by omega, by omega⟩
        have HS := Lib.hid (fun t => words_step l H.out hlt (hi := hi) (t := t) (by omega) (by omega) (.inl g2))
        go_wp2
        go_loop [5, 6] (fun v k => ∃ t : Nat, 8 * j + t ≤ hi ∧ k = .int .i64 ((hi : Int) - 1 - t) ∧ v = .int .u64 (leN ((l.drop (hi - t)).take t) : Nat)) (fun _ k => (intOf k + 1 - 8 * j).toNat)
        case atStart => exact ⟨0, by omega, congrArg _ (by omega), rfl⟩
        case round =>
          obtain ⟨t, ht, rfl, rfl⟩ := hrel
          by_cases hk : 8 * j + t < hi
          · have hll : hi - 1 - t < l.length := by rw [← H.out]; omega
            have hx := leN_drop_lt l (hi - t) t (by omega)
            have hld := leN_drop (l := l) (k := hi - 1 - t) (t := t) hll
            have hcell := HC.out (hi - 1 - t) hll
            rw [bI_get hll] at hcell
            have hc := (l[hi - 1 - t]'hll).toNat_lt
            rw [show hi - 1 - t + 1 = hi - t by omega] at hld
            generalize (l[hi - 1 - t]'hll).toNat = c8 at *
            have HX := Lib.hid (show leN ((l.drop (hi - (t + 1))).take (t + 1)) = c8 + 256 * leN ((l.drop (hi - t)).take t) from by rw [← hld, show hi - (t + 1) = hi - 1 - t by omega])
            generalize leN ((l.drop (hi - t)).take t) = x at hx HX ⊢
            clear hld hll
            go_wp2
            go_round
            case rel =>
              refine ⟨t + 1, by omega, congrArg _ (by omega), ?_⟩
              rw [HX.out]
              exact congrArg _ (by omega)
            case measure => simp [intOf]; omega
          · have HT := Lib.hid (HS.out t (by omega))
            clear HS HC
            have HO1 := Lib.hid (vs_one .u64 [(leN ((l.drop (hi - t)).take t) : Nat)])
            have HO2 := Lib.hid (show j + 1 ≤ maxLen by unfold maxLen; omega)
            have HO3 := Lib.hid (show (j + 1) * 8 ≤ 140737488355328 by omega)
            have HO4 := Lib.hid (show w.heap.size ≤ (wo.alloc (.cells #[.int .u64 (leN ((l.drop (hi - t)).take t) : Nat)] 25)).heap.size by have := hb.size; simp; omega)
            go_wp2_with (at_builtin; refine wpList_append_own _ rfl _ _ 40 rfl w.heap.size 25 i0 (.int .u64 0) 1 8 Try.underlying40 hi0 hz0 hz1 hz2 rfl (by decide) _ _ _ rfl (hown.alloc _) ⟨wo.heap.size, 0, none⟩ 1 1 [.int .u64 (leN ((l.drop (hi - t)).take t) : Nat)] rfl rfl (cell_one_new _ _ _) HO1.out HO2.out HO3.out HO4.out ?_; intro v' w1 hown' hgrow _)
            rw [HT.out] at hown'
            have hb' : Below w.heap.size w w1 := (hb.alloc hb.size _).grown hgrow (by have := hb.size; simp; omega) (own_block_ge hown)
            clear hgrow hown
            go_wp2
            go_roundw
            case rel => exact ⟨j + 1, by omega, congrArg _ (by omega), hown', hb'⟩
            case measure => simp [intOf]; omega
    · have hj' : (wordsL l).length = j ∧ (wordsL l).take j = wordsL l := by
        refine ⟨?_, wordsL_take_all l (by rw [← H.out]; omega)⟩
        rw [wordsL_length, ← H.out]; omega
      obtain ⟨a', c', hform⟩ := own_form hown
      subst hform
      have HJ := Lib.hid hj'
      clear hj'
      go_wp2
      go_ret
      refine ⟨a', c', ?_, ?_, hb⟩
      · rw [wI_length, HJ.out.1]; rfl
      · rw [wI_length, HJ.out.1]
        rw [HJ.out.2] at hown
        exact hown
end Go.Proofs.Ytkcokddhmfomgaa
