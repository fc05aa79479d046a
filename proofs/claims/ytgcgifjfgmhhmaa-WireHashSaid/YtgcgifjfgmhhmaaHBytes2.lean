/- The contract of hash.Bytes: P1.2; what lay lies as it lay. -/
import Derived.Test.YtgcgifjfgmhhmaaHSum2
namespace Go.Proofs.Ytgcgifjfgmhhmaa
open Go.RowKit Go.Shelf
attribute [local go_sem] Oper.semAt_some

set_option maxRecDepth 100000 in
set_option maxHeartbeats 2000000 in
theorem bytes_in (s : ByteArray) (bs : List UInt8) (a : Option Addr) (m c B : Nat) (w : World) (hs : s.size ≤ 1000) (hm : m = bs.length) (hml : m ≤ 1000) (hR : Rd .u8 w B (.slice a m c) (bI bs)) (hB : B ≤ w.heap.size) :
    CallsIn Fence.wide 8 Try.prog 37 #[.string s, .slice a m c] w fun e W' => e = .returned (.int .u64 (bytesS s.data.toList bs).toNat) ∧ Below w.heap.size w W' := by
  obtain ⟨i0, hi0, hz0, hz1, hz2⟩ := info_parts int_info
  have HM := Lib.hid hm
  have HR := Lib.hid hR
  clear hm hR
  refine callsIn_of_wp_marks Try.func37 rfl trivial ?_ rfl
  simp only [Try.ntmps37, List.size_toArray, List.length_cons, List.length_nil, Nat.reduceAdd, Nat.reduceSub, Array.replicate_succ, Array.replicate_zero, List.push_toArray, List.append_toArray, List.nil_append, List.cons_append]
  have H1 := Lib.hid (show i0.bytes * (m / 8 + 2) ≤ 281474976710656 by rw [hz2]; omega)
  have H2 := Lib.hid (show m / 8 + 2 ≤ maxLen by unfold maxLen; omega)
  gi_wp2_with (first | (gi_at_make; refine wpListIn_make_own _ rfl _ _ 22 rfl w.heap.size 3 i0 (.int .i64 0) 1 Try.underlying22 hi0 hz0 hz1 .i64 .i64 _ (m / 8 + 2) rfl rfl (by omega) H1.out H2.out (Nat.le_refl _) ?_; intro w1 hown1 hgrow1) | (refine ⟨trivial, ?_⟩; gi_at_call 56; refine (wordsOfB_in _ _ _ _ _).mono ?_; rintro e w' ⟨rfl, rfl⟩))
  have hbx : w.heap.size ≤ w1.heap.size := hgrow1.size
  have hb1 : Below w.heap.size w w1 := (Below.refl _ w).grown hgrow1 (Nat.le_refl _) (by simp)
  have bO := Boxed.new w1 22 (.slice (some ⟨w.heap.size, 0, none⟩) 0 (m / 8 + 2))
  have bN := Boxed.new (w1.alloc (.cells #[.slice (some ⟨w.heap.size, 0, none⟩) 0 (m / 8 + 2)] 22)) 24 (.slice a m c)
  rw [World.size_alloc] at bN
  have hB0 : Below w.heap.size w ((w1.alloc (.cells #[.slice (some ⟨w.heap.size, 0, none⟩) 0 (m / 8 + 2)] 22)).alloc (.cells #[.slice a m c] 24)) := (hb1.alloc hbx _).alloc (by simp; omega) _
  have HWL := Lib.hid (show (wordsL bs).length ≤ 200 by rw [wordsL_length, ← HM.out]; omega)
  refine wpIn_rangeFunc_ownG rfl (by decide) (gf := 64) (lb := #[.pointer (some ⟨w1.heap.size + 1, 0, none⟩)]) rfl trivial (enters_of Try.func64 (by kernel_rfl) rfl)
    (itB_stops (8 - 1) (by decide) (w1.heap.size + 1) w.heap.size bs a m c HM.out hml _ (by simp) (by simp; omega) bN.cell ((HR.out.below hB0 hB).mono hB)) kp_t (kp_b (by simp; omega) (by simp)) (Below.refl _ _) (fun _ => rfl)
    (fun pre W => ((∃ v, Boxed W w1.heap.size 22 v ∧ W.ownsRow w.heap.size 3 1 v pre.length (vs .i64 (pre.map (·.toInt))) ∧ True) ∧ Boxed W (w1.heap.size + 1) 24 (.slice a m c)) ∧ Below w.heap.size w W)
    (fun _ _ _ => False)
    (OwnFrom.and (OwnFrom.and (Own.from (holdsRow_own w.heap.size w1.heap.size 22 3 1 (fun pre : List (BitVec 64) => pre.length) (fun pre => vs .i64 (pre.map (·.toInt))) (fun _ _ => True)) _) (Own.from (boxed_own (w1.heap.size + 1) 24 (fun _ => .slice a m c)) _)) (ownFrom_below (Nat.le_refl _) (by simp; omega)))
    (fun _ _ _ _ _ hs _ _ => hs)
    ⟨⟨⟨_, bO.alloc _, (hown1.alloc _).alloc _, trivial⟩, bN⟩, hB0⟩
    (fun x => { tmps := #[.string s, .slice a m c, undef, undef, .int .u64 0, .pointer (some ⟨w1.heap.size, 0, none⟩), .int .u64 (x.toNat : Int), .slice a m c, .int .i64 (m : Int), .int .i64 ((m : Int) / 8), .int .i64 ((m : Int) / 8 + 2), .slice (some ⟨w.heap.size, 0, none⟩) 0 (m / 8 + 2), .slice a m c, .func (.func 64) #[] #[.pointer (some ⟨w1.heap.size + 1, 0, none⟩)], .int .u64 (x.toNat : Int), undef, undef, undef, undef, undef, undef, undef, undef, undef, undef, undef, undef], defers := [] }) ?assign ?body ?done ?stop
  case assign =>
    intro l x W K hK
    unfold encW
    gi_wp2
    exact hK
  case body =>
    rintro l pre x W ⟨⟨⟨v, hv, hrow, _⟩, hbs⟩, hb⟩ hlt
    have hc := hv.cell
    have hxt := wrap_toInt x
    have HO1 := Lib.hid (vs_one .i64 [x.toInt])
    have HO2 := Lib.hid (show pre.length + 1 ≤ maxLen by have := HWL.out; unfold maxLen; omega)
    have HO3 := Lib.hid (show (pre.length + 1) * 8 ≤ 140737488355328 by have := HWL.out; omega)
    have HO4 := Lib.hid (show w.heap.size ≤ (W.alloc (.cells #[.int .i64 x.toInt] 3)).heap.size by have := hb.size; simp; omega)
    have HSN := Lib.hid (show vs .i64 ((pre ++ [x]).map (·.toInt)) = vs .i64 (pre.map (·.toInt)) ++ [.int .i64 x.toInt] by rw [List.map_append, List.map_singleton, vs_snoc])
    clear hlt
    gi_wp2_with (gi_at_builtin; refine wpListIn_append_own _ rfl _ _ 22 rfl w.heap.size 3 i0 (.int .i64 0) 1 8 Try.underlying22 hi0 hz0 hz1 hz2 rfl (by decide) _ _ _ rfl (hrow.alloc _) ⟨W.heap.size, 0, none⟩ 1 1 [.int .i64 x.toInt] rfl rfl (cell_one_new _ _ _) HO1.out HO2.out HO3.out HO4.out ?_; intro v' w2 hown' hgrow _; obtain ⟨g', cap', rfl⟩ := ownsRow_succ hown'; obtain ⟨hv1, hv2, hr2, hk2, hb2⟩ := hv.appended (by decide) hrow hb.size hbx hown' hgrow; have hc1 := hv1.cell; have hf1 := hv1.frozen)
    have hsame : (w2.setCell ⟨w1.heap.size, 0, none⟩ (.slice (some ⟨g', 0, none⟩) (pre.length + 1) cap')).heap[w1.heap.size + 1]? = W.heap[w1.heap.size + 1]? :=
      (Below.heap_setCell _ _ _ _ (by simp)).trans ((hgrow.block _ (by have := hbs.lt; simp; omega) (hbs.not_row (by decide) hrow)).trans (Below.heap_alloc W _ _ hbs.lt))
    refine ⟨hk2.from _, ⟨hb2, hsame⟩, ⟨⟨_, hv2, ?_⟩, hsame.trans hbs⟩, hb.trans hb2⟩
    rw [HSN.out, List.length_append]
    exact hr2
  case done =>
    rintro D ys W hD rfl ⟨⟨⟨v, hv, hrow, _⟩, hbs⟩, hb⟩ hK
    have hc := hv.cell
    have HO1 := Lib.hid (vs_one .i64 [(m : Int)])
    have HO2 := Lib.hid (show (wordsL bs).length + 1 ≤ maxLen by have := HWL.out; unfold maxLen; omega)
    have HO3 := Lib.hid (show ((wordsL bs).length + 1) * 8 ≤ 140737488355328 by have := HWL.out; omega)
    have HO4 := Lib.hid (show w.heap.size ≤ (W.alloc (.cells #[.int .i64 (m : Int)] 3)).heap.size by have := hb.size; simp; omega)
    gi_wp2_with (gi_at_builtin; refine wpListIn_append_own _ rfl _ _ 22 rfl w.heap.size 3 i0 (.int .i64 0) 1 8 Try.underlying22 hi0 hz0 hz1 hz2 rfl (by decide) _ _ _ rfl (hrow.alloc _) ⟨W.heap.size, 0, none⟩ 1 1 [.int .i64 (m : Int)] rfl rfl (cell_one_new _ _ _) HO1.out HO2.out HO3.out HO4.out ?_; intro v' w2 hown' hgrow _)
    have hb2 : Below w.heap.size w w2 := (hb.alloc (by have := hb.size; omega) _).grown hgrow (by have := hb.size; simp; omega) (own_block_ge hrow)
    have hDlt : D < W.heap.size := (Array.getElem?_eq_some_iff.1 hK).1
    have hne : some D ≠ v.ownBlock := by
      intro e
      rcases hrow.2 with ⟨rfl, _⟩ | ⟨g, cap, cur, rfl, _, hgb, _⟩
      · simp [Value.ownBlock] at e
      · obtain rfl : D = g := by simpa [Value.ownBlock] using e
        rw [hK] at hgb; cases hgb
    have hK2 : w2.heap[D]? = some (.deferred (some [])) := ((hgrow.block D (by simp; omega) hne).trans (Below.heap_alloc W _ _ hDlt)).trans hK
    obtain ⟨a', c', rfl⟩ := own_form hown'
    have hr' : Rd .i64 w2 w2.heap.size (.slice a' ((wordsL bs).length + 1) c') (argsB bs) := by
      refine Rd.own (n := (wordsL bs).length + 1) (e := 3) (base := w.heap.size) ?_
      rw [argsB, ← HM.out, vs_snoc]
      exact hown'
    have hlen : (wordsL bs).length + 1 = (argsB bs).length := by simp [argsB]
    have HE := Lib.hid hlen
    have HR' := Lib.hid hr'
    have HL2 := Lib.hid (show (wordsL bs).length + 1 ≤ 1000 by have := HWL.out; omega)
    clear hgrow hrow hown' hr' hlen hne hv hc hbs
    gi_wp2_with fail
    refine ⟨trivial, ?_⟩
    refine (callsIn_wide.2 (sum_any s (argsB bs) _ _ c' w2.heap.size w2 hs HE.out HL2.out HR'.out (Nat.le_refl _))).mono ?_
    rintro e w3 ⟨rfl, hb3⟩
    have hK3 : w3.heap[D]? = some (.deferred (some [])) := (hb3.block D (Array.getElem?_eq_some_iff.1 hK2).1).trans hK2
    gi_wp2
    refine ⟨by simp, .inl ⟨_, _, rfl, run_takeDeferred hK3, ?_⟩⟩
    refine ⟨_, results_tmp rfl _ _ _, rfl, (hb2.trans (hb3.mono hb2.size)).trans (belowK_b (w := w) (Nat.le_refl _) _ D _ _ (by simp at hD; omega) hK3 rfl rfl)⟩
  case stop =>
    rintro D c pre W _ _ h _
    exact h.elim
theorem bytes_any (s : ByteArray) (bs : List UInt8) (a : Option Addr) (m c B : Nat) (w : World) (hs : s.size ≤ 1000) (hm : m = bs.length) (hml : m ≤ 1000) (hR : Rd .u8 w B (.slice a m c) (bI bs)) (hB : B ≤ w.heap.size) :
    Calls Try.prog 37 #[.string s, .slice a m c] w fun e W' => e = .returned (.int .u64 (bytesS s.data.toList bs).toNat) ∧ Below w.heap.size w W' :=
  callsIn_wide.1 (bytes_in s bs a m c B w hs hm hml hR hB)
end Go.Proofs.Ytgcgifjfgmhhmaa
