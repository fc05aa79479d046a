/- The contract of hash.Sum: P1.1; what lay lies as it lay. -/
import Derived.Test.YtgcgifjfgmhhmaaHIter2
import Derived.Test.YtgcgifjfgmhhmaaHAux
namespace Go.Proofs.Ytgcgifjfgmhhmaa
open Go.RowKit Go.Shelf
attribute [local go_sem] Oper.semAt_some

set_option maxRecDepth 100000 in
set_option maxHeartbeats 2000000 in
theorem sum_in (s : ByteArray) (ws : List Int) (a : Option Addr) (n c B : Nat) (w : World) (hs : s.size ≤ 1000) (hn : n = ws.length) (hl : n ≤ 1000) (h : Rd .i64 w B (.slice a n c) ws) (hB : B ≤ w.heap.size) :
    CallsIn Fence.wide 6 Try.prog 57 #[.string s, .slice a n c] w fun e W' => e = .returned (.int .u64 (sumS s.data.toList ws).toNat) ∧ Below w.heap.size w W' := by
  have HN := Lib.hid hn
  have HR := Lib.hid h
  clear hn h
  refine callsIn_of_wp_marks Try.func57 rfl trivial ?_ rfl
  simp only [Try.ntmps57, List.size_toArray, List.length_cons, List.length_nil, Nat.reduceAdd, Nat.reduceSub, Array.replicate_succ, Array.replicate_zero, List.push_toArray, List.append_toArray, List.nil_append, List.cons_append]
  gi_wp2_with (refine ⟨trivial, ?_⟩; gi_at_call 66; refine (wordsOfS_in _ _ _).mono ?_; rintro e w' ⟨rfl, rfl⟩)
  have bS := Boxed.new w 23 (.int .u64 0)
  have bN := Boxed.new (w.alloc (.cells #[.int .u64 0] 23)) 9 (.string s)
  rw [World.size_alloc] at bN
  have hB0 : Below w.heap.size w ((w.alloc (.cells #[.int .u64 0] 23)).alloc (.cells #[.string s] 9)) := ((Below.refl _ w).alloc (Nat.le_refl _) _).alloc (by simp) _
  refine wpIn_rangeFunc_ownG rfl (by decide) (gf := 68) (lb := #[.pointer (some ⟨w.heap.size + 1, 0, none⟩)]) rfl trivial (enters_of Try.func68 (by kernel_rfl) rfl)
    (itS_stops (6 - 1) (by decide) (w.heap.size + 1) w.heap.size s hs _ (by simp) bN.cell) kp_t (kp_b (by simp; omega) (by simp)) (Below.refl _ _) (fun _ => rfl)
    (fun pre W => (W.cell? ⟨w.heap.size, 0, none⟩ = some (.int .u64 (mxs 0#64 pre).toNat) ∧ W.frozen? ⟨w.heap.size, 0, none⟩ = false) ∧ Below w.heap.size w W)
    (fun _ _ _ => False)
    (OwnFrom.and (Own.from (fun s A B row hs hg hr => ⟨cell_kept hs.1 hg hr, (frozen_kept hs.1 hg hr).trans hs.2⟩) _) (ownFrom_below (Nat.le_refl _) (by simp; omega)))
    (fun _ _ _ _ _ hs _ _ => hs)
    ⟨⟨(bS.alloc _).cell, (bS.alloc _).frozen⟩, hB0⟩
    (fun x => { tmps := #[.string s, .slice a n c, undef, undef, .int .u64 0, .pointer (some ⟨w.heap.size, 0, none⟩), .int .u64 (x.toNat : Int), undef, undef, .string s, .func (.func 68) #[] #[.pointer (some ⟨w.heap.size + 1, 0, none⟩)], .int .u64 (x.toNat : Int), undef, undef, undef, undef, undef, undef, undef, undef, undef, undef, undef, undef, undef, undef, undef, undef, undef, undef, undef, undef, undef, undef, undef, undef, undef, undef], defers := [] }) ?assign ?body ?done ?stop
  case assign =>
    intro l x W K hK
    unfold encW
    gi_wp2
    exact hK
  case body =>
    rintro l pre x W ⟨⟨hc, hf⟩, hb⟩ _
    have HM := Lib.hid (mxs_snoc 0#64 pre x)
    gi_wp2_with (refine ⟨trivial, ?_⟩; gi_at_call 67; refine (CallsIn.inRound l (callsIn_wide.2 (mix_any _ _ (mxs 0#64 pre) x _ rfl rfl))).mono ?_; rintro e w' ⟨rfl, rfl⟩)
    exact ⟨(KeepsOthers.setCell _ _ _).from _, ⟨(Below.refl _ _).setCell (p := ⟨w.heap.size, 0, none⟩) (Nat.le_refl _) _, Below.heap_setCell _ _ _ _ (by simp)⟩, ⟨by rw [HM.out]; exact World.cell?_setCell_same' _ _ _ (by rw [hc]; rfl), by rw [World.frozen?_setCell]; exact hf⟩, hb.setCell (p := ⟨w.heap.size, 0, none⟩) (Nat.le_refl _) _⟩
  case done =>
    rintro D ys W hD rfl ⟨⟨hc, hf⟩, hb⟩ hK
    have e1 : ((s.size : Nat) : Int) = ((BitVec.ofNat 64 s.size).toNat : Int) := ofNat_small _ (by omega)
    have e2 : ((n : Nat) : Int) = ((BitVec.ofNat 64 n).toNat : Int) := ofNat_small _ (by omega)
    have E1 := Lib.hid e1
    have E2 := Lib.hid e2
    clear e1 e2
    gi_wp2_with fail
    refine ⟨trivial, ?_⟩
    refine (callsIn_wide.2 (mix_any _ _ (mxs 0#64 (wordsL s.data.toList)) (BitVec.ofNat 64 s.size) _ rfl E1.out)).mono ?_
    rintro e w' ⟨rfl, rfl⟩
    gi_wp2_with fail
    refine ⟨trivial, ?_⟩
    refine (callsIn_wide.2 (mix_any _ _ (mx (mxs 0#64 (wordsL s.data.toList)) (BitVec.ofNat 64 s.size)) (BitVec.ofNat 64 n) _ rfl E2.out)).mono ?_
    rintro e w' ⟨rfl, rfl⟩
    gi_wp2_with fail
    obtain ⟨hd, hhd⟩ : ∃ hd, mx (mx (mxs 0#64 (wordsL s.data.toList)) (BitVec.ofNat 64 s.size)) (BitVec.ofNat 64 n) = hd := ⟨_, rfl⟩
    rw [hhd]
    have HD := Lib.hid (show headS s.data.toList ws.length = hd by rw [← hhd, ← HN.out, headS]; simp)
    clear hhd
    have hDw : D ≠ w.heap.size := by simp at hD; omega
    obtain ⟨wa, hwa⟩ : ∃ wa, (W.setCell ⟨w.heap.size, 0, none⟩ (.int .u64 (mx (mxs 0#64 (wordsL s.data.toList)) (BitVec.ofNat 64 s.size)).toNat)).setCell ⟨w.heap.size, 0, none⟩ (.int .u64 hd.toNat) = wa := ⟨_, rfl⟩
    have ca : wa.cell? ⟨w.heap.size, 0, none⟩ = some (.int .u64 hd.toNat) := by
      rw [← hwa]
      exact World.cell?_setCell_same' _ _ _ (by rw [World.cell?_setCell_same' _ _ _ (by rw [hc]; rfl)]; rfl)
    have fa : wa.frozen? ⟨w.heap.size, 0, none⟩ = false := by rw [← hwa, World.frozen?_setCell, World.frozen?_setCell]; exact hf
    have ba : Below w.heap.size w wa := by rw [← hwa]; exact (hb.setCell (p := ⟨w.heap.size, 0, none⟩) (Nat.le_refl _) _).setCell (p := ⟨w.heap.size, 0, none⟩) (Nat.le_refl _) _
    have ka : wa.heap[D]? = some (.deferred (some [])) := by rw [← hwa, Below.heap_setCell _ _ _ _ hDw, Below.heap_setCell _ _ _ _ hDw]; exact hK
    rw [hwa]
    clear hwa hc hf hb hK
    gi_loopw [27] (fun i wr => ∃ k : Nat, k ≤ n ∧ i = .int .i64 k ∧ (wr.cell? ⟨w.heap.size, 0, none⟩ = some (.int .u64 (mxi hd (ws.take k)).toNat) ∧ wr.frozen? ⟨w.heap.size, 0, none⟩ = false) ∧ Below w.heap.size w wr ∧ wr.heap[D]? = some (.deferred (some [])))
      (fun i _ => n - (intOf i).toNat)
    case atStart => exact ⟨0, by omega, rfl, ⟨ca, fa⟩, ba, ka⟩
    case round =>
      obtain ⟨k, hk, rfl, ⟨hc, hf⟩, hb, hK⟩ := hrel
      clear ca fa ba ka
      by_cases hlt : k < n
      · have hkl : k < ws.length := by rw [← HN.out]; exact hlt
        obtain ⟨b, off, rfl, _, hcell⟩ := (HR.out.below hb hB).at_ (j := k) hkl
        have HS := Lib.hid (mxi_take_succ hd hkl)
        generalize ws.getD k 0 = x at hcell HS
        have EX := Lib.hid (u64_ofInt x)
        gi_wp2_with (refine ⟨trivial, ?_⟩; gi_at_call 67; refine (callsIn_wide.2 (mix_any _ _ (mxi hd (ws.take k)) (BitVec.ofInt 64 x) _ rfl EX.out)).mono ?_; rintro e w' ⟨rfl, rfl⟩)
        go_roundw
        case rel =>
          exact ⟨k + 1, by omega, by go_num, ⟨by rw [HS.out]; exact World.cell?_setCell_same' _ _ _ (by rw [hc]; rfl), by rw [World.frozen?_setCell]; exact hf⟩, hb.setCell (p := ⟨w.heap.size, 0, none⟩) (Nat.le_refl _) _, (Below.heap_setCell _ _ _ _ hDw).trans hK⟩
        case measure => simp [intOf]; omega
      · have hend : ws.take k = ws := List.take_of_length_le (by rw [← HN.out]; omega)
        rw [hend] at hc
        clear hend
        gi_wp2_with (refine ⟨trivial, ?_⟩; gi_at_call 67; refine (callsIn_wide.2 (mix_any _ _ (mxi hd ws) 0#64 _ rfl rfl)).mono ?_; rintro e w' ⟨rfl, rfl⟩)
        refine ⟨by simp, .inl ⟨_, _, rfl, run_takeDeferred hK, ?_⟩⟩
        refine ⟨_, results_tmp rfl _ _ _, ?_, hb.trans (belowK_b (w := w) (Nat.le_refl _) _ D _ _ (by simp at hD; omega) hK rfl rfl)⟩
        rw [sumS, HD.out]
        rfl
  case stop =>
    rintro D c pre W _ _ h _
    exact h.elim
theorem sum_any (s : ByteArray) (ws : List Int) (a : Option Addr) (n c B : Nat) (w : World) (hs : s.size ≤ 1000) (hn : n = ws.length) (hl : n ≤ 1000) (h : Rd .i64 w B (.slice a n c) ws) (hB : B ≤ w.heap.size) :
    Calls Try.prog 57 #[.string s, .slice a n c] w fun e W' => e = .returned (.int .u64 (sumS s.data.toList ws).toNat) ∧ Below w.heap.size w W' :=
  callsIn_wide.1 (sum_in s ws a n c B w hs hn hl h hB)

end Go.Proofs.Ytgcgifjfgmhhmaa
