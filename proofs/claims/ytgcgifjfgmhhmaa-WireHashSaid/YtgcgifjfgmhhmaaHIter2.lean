/- The two iterator functions over the words of a label and of bytes: what they hand to yield, for every loop body that leaves their box and the bytes as they lay. -/
import Derived.RangeFuncNested
import Derived.RangeFuncBound
import Derived.RangeFuncCalls
import Derived.RangeFuncLeaves
import Derived.RangeFuncBox
import Derived.Shelf.Abstract
import Derived.Shelf.RegionOpen
import Derived.WalkKit
import Derived.OwnWalkIn
import Derived.TacticsInMore
import Derived.LoopNIn
import Derived.LoopIn
import Derived.Test.YtgcgifjfgmhhmaaHWat2
namespace Go.Proofs.Ytgcgifjfgmhhmaa
open Go.RowKit Go.Shelf
attribute [local go_sem] Oper.semAt_some

/-- What a round must keep: what lay below n₀, and the iterator's own box. -/
def KpI (n₀ Bs : Nat) (A B : World) : Prop := Below n₀ A B ∧ B.heap[Bs]? = A.heap[Bs]?
theorem kp_t {n₀ Bs : Nat} {A B C : World} (h : KpI n₀ Bs A B) (k : KpI n₀ Bs B C) : KpI n₀ Bs A C := ⟨h.1.trans k.1, k.2.trans h.2⟩
theorem kp_b {n₀ Bs : Nat} {w : World} (hn : n₀ ≤ w.heap.size) (hB : Bs < w.heap.size) (W : World) (l : Nat) (o o' : Obj) (hl : w.heap.size ≤ l) (h : W.heap[l]? = some o) (h1 : o.isCells = false) (h2 : o.isWalk = false) : KpI n₀ Bs W (W.putObj l o') :=
  ⟨belowK_b hn W l o o' hl h h1 h2, World.putObj_heap_other (by omega)⟩
/-- The first k words. -/
theorem take_words (l : List UInt8) (k : Nat) (h : 8 * k < l.length) : (wordsL l).take (k + 1) = (wordsL l).take k ++ [wordL (l.drop (8 * k))] := wordsL_take_succ l h
theorem words_lt (l : List UInt8) (k : Nat) (h : 8 * k < l.length) : ((wordsL l).take k).length < (wordsL l).length := by
  rw [List.length_take, wordsL_length]; omega
def encW (x : BitVec 64) : Array Value := #[Value.int .u64 (x.toNat : Int)]

set_option maxRecDepth 100000 in
set_option maxHeartbeats 2000000 in
theorem itS_in (n : Nat) (hn : 1 ≤ n) (l Bs n₀ : Nat) (s : ByteArray) (hs : s.size ≤ 1000) (J Jx : List (BitVec 64) → World → Prop)
    (hY : ∀ pre x W, J pre W → pre.length < (wordsL s.data.toList).length → YieldAt Fence.wide (n - 1) Try.prog l (encW x) W fun e W' =>
      (e = .returned (.bool true) ∧ J (pre ++ [x]) W' ∧ KpI n₀ Bs W W') ∨ (e = .returned (.bool false) ∧ Jx (pre ++ [x]) W'))
    (W : World) (hBs : W.cell? ⟨Bs, 0, none⟩ = some (.string s)) (h0 : J [] W) :
    CallsIn Fence.wide n Try.prog 68 #[.func (.yield l) #[] #[], .pointer (some ⟨Bs, 0, none⟩)] W fun e W' => (∃ v, e = .returned v) ∧
      ((∃ ys, ys = wordsL s.data.toList ∧ J ys W') ∨ (∃ pre, pre <+: wordsL s.data.toList ∧ Jx pre W')) := by
  have HS := Lib.hid (show s.data.toList.length = s.size by simp)
  refine callsIn_of_wp Try.func68 rfl trivial ?_ rfl
  simp only [Try.ntmps68, List.size_toArray, List.length_cons, List.length_nil, Nat.reduceAdd, Nat.reduceSub, Array.replicate_succ, Array.replicate_zero, List.push_toArray, List.append_toArray, List.nil_append, List.cons_append]
  gi_wp2
  gi_loopw [3] (fun i wr => ∃ k : Nat, 8 * k ≤ s.size + 7 ∧ i = .int .i64 (8 * (k : Int)) ∧ J ((wordsL s.data.toList).take k) wr ∧ wr.cell? ⟨Bs, 0, none⟩ = some (.string s))
    (fun i _ => s.size + 8 - (intOf i).toNat)
  case atStart => exact ⟨0, by omega, rfl, by simpa using h0, hBs⟩
  case round =>
    obtain ⟨k, hk, rfl, hJs, hcb⟩ := hrel
    by_cases hlt : 8 * k < s.size
    · obtain ⟨x, hx⟩ : ∃ x, wordL (s.data.toList.drop (8 * k)) = x := ⟨_, rfl⟩
      have HT := Lib.hid (take_words s.data.toList k (by rw [HS.out]; exact hlt))
      obtain ⟨fn, tmps, assign, body, hy, hR⟩ := hY _ x wr hJs (words_lt _ k (by rw [HS.out]; exact hlt))
      rw [hx] at HT
      have HW := Lib.hid (wordAtS_any s (8 * k) · hs hlt)
      rw [hx] at HW
      unfold encW at hy
      clear hx
      gi_wp2_with (refine ⟨trivial, ?_⟩; gi_at_call 69; refine (callsIn_wide.2 (HW.out _)).mono ?_; rintro e w' ⟨rfl, rfl⟩)
      refine hR.mono ?_
      rintro e W3 (⟨rfl, hJ3, hk3⟩ | ⟨rfl, hJx3⟩)
      · have hc3 : W3.cell? ⟨Bs, 0, none⟩ = some (.string s) := (World.cell?_of_block (a := ⟨Bs, 0, none⟩) hk3.2).trans hcb
        gi_wp2
        go_roundw
        case rel => exact ⟨k + 1, by omega, by go_num, by rw [HT.out]; exact hJ3, hc3⟩
        case measure => simp [intOf]; omega
      · gi_wp2
        refine bodyPost_ret (results_none rfl _ _ _) rfl ?_
        exact ⟨⟨_, rfl⟩, .inr ⟨_, by rw [← HT.out]; exact List.take_prefix _ _, hJx3⟩⟩
    · gi_wp2
      go_end0
      exact ⟨⟨_, rfl⟩, .inl ⟨_, wordsL_take_all _ (by rw [HS.out]; omega), hJs⟩⟩
set_option maxRecDepth 100000 in
set_option maxHeartbeats 2000000 in
theorem itB_in (n : Nat) (hn : 1 ≤ n) (l Bs n₀ : Nat) (bs : List UInt8) (a : Option Addr) (m c : Nat) (hm : m = bs.length) (hml : m ≤ 1000) (J Jx : List (BitVec 64) → World → Prop)
    (hY : ∀ pre x W, J pre W → pre.length < (wordsL bs).length → YieldAt Fence.wide (n - 1) Try.prog l (encW x) W fun e W' =>
      (e = .returned (.bool true) ∧ J (pre ++ [x]) W' ∧ KpI n₀ Bs W W') ∨ (e = .returned (.bool false) ∧ Jx (pre ++ [x]) W'))
    (W : World) (hBs : W.cell? ⟨Bs, 0, none⟩ = some (.slice a m c)) (hRd : Rd .u8 W n₀ (.slice a m c) (bI bs)) (h0 : J [] W) :
    CallsIn Fence.wide n Try.prog 64 #[.func (.yield l) #[] #[], .pointer (some ⟨Bs, 0, none⟩)] W fun e W' => (∃ v, e = .returned v) ∧
      ((∃ ys, ys = wordsL bs ∧ J ys W') ∨ (∃ pre, pre <+: wordsL bs ∧ Jx pre W')) := by
  have HS := Lib.hid hm.symm
  have HR := Lib.hid hRd
  clear hm hRd
  refine callsIn_of_wp Try.func64 rfl trivial ?_ rfl
  simp only [Try.ntmps64, List.size_toArray, List.length_cons, List.length_nil, Nat.reduceAdd, Nat.reduceSub, Array.replicate_succ, Array.replicate_zero, List.push_toArray, List.append_toArray, List.nil_append, List.cons_append]
  gi_wp2
  gi_loopw [3] (fun i wr => ∃ k : Nat, 8 * k ≤ m + 7 ∧ i = .int .i64 (8 * (k : Int)) ∧ J ((wordsL bs).take k) wr ∧ wr.cell? ⟨Bs, 0, none⟩ = some (.slice a m c) ∧ Below n₀ W wr)
    (fun i _ => m + 8 - (intOf i).toNat)
  case atStart => exact ⟨0, by omega, rfl, by simpa using h0, hBs, Below.refl _ _⟩
  case round =>
    obtain ⟨k, hk, rfl, hJs, hcb, hbel⟩ := hrel
    by_cases hlt : 8 * k < m
    · obtain ⟨x, hx⟩ : ∃ x, wordL (bs.drop (8 * k)) = x := ⟨_, rfl⟩
      have HT := Lib.hid (take_words bs k (by rw [HS.out]; exact hlt))
      obtain ⟨fn, tmps, assign, body, hy, hR⟩ := hY _ x wr hJs (words_lt _ k (by rw [HS.out]; exact hlt))
      rw [hx] at HT
      have HW := Lib.hid (wordAtB_any bs a m c n₀ (8 * k) wr HS.out.symm hml (HR.out.below hbel (Nat.le_refl _)) hlt)
      rw [hx] at HW
      unfold encW at hy
      clear hx
      gi_wp2_with (refine ⟨trivial, ?_⟩; gi_at_call 65; refine (callsIn_wide.2 HW.out).mono ?_; rintro e w' ⟨rfl, rfl⟩)
      refine hR.mono ?_
      rintro e W3 (⟨rfl, hJ3, hk3⟩ | ⟨rfl, hJx3⟩)
      · have hc3 : W3.cell? ⟨Bs, 0, none⟩ = some (.slice a m c) := (World.cell?_of_block (a := ⟨Bs, 0, none⟩) hk3.2).trans hcb
        gi_wp2
        go_roundw
        case rel => exact ⟨k + 1, by omega, by go_num, by rw [HT.out]; exact hJ3, hc3, hbel.trans hk3.1⟩
        case measure => simp [intOf]; omega
      · gi_wp2
        refine bodyPost_ret (results_none rfl _ _ _) rfl ?_
        exact ⟨⟨_, rfl⟩, .inr ⟨_, by rw [← HT.out]; exact List.take_prefix _ _, hJx3⟩⟩
    · gi_wp2
      go_end0
      exact ⟨⟨_, rfl⟩, .inl ⟨_, wordsL_take_all _ (by rw [HS.out]; omega), hJs⟩⟩

theorem wordsOfS_in (n : Nat) (s : ByteArray) (w : World) :
    CallsIn Fence.wide n Try.prog 66 #[.string s] w fun e w' => e = .returned (.func (.func 68) #[] #[.pointer (some ⟨w.heap.size, 0, none⟩)]) ∧ w.alloc (.cells #[.string s] 9) = w' := by
  refine callsIn_of_wp Try.func66 rfl trivial ?_ rfl
  simp only [Try.ntmps66, List.size_toArray, List.length_cons, List.length_nil, Nat.reduceAdd, Nat.reduceSub, Array.replicate_succ, Array.replicate_zero, List.push_toArray, List.append_toArray, List.nil_append, List.cons_append]
  gi_wp2
  go_ret
  exact ⟨rfl, rfl⟩
theorem wordsOfB_in (n : Nat) (a : Option Addr) (m c : Nat) (w : World) :
    CallsIn Fence.wide n Try.prog 56 #[.slice a m c] w fun e w' => e = .returned (.func (.func 64) #[] #[.pointer (some ⟨w.heap.size, 0, none⟩)]) ∧ w.alloc (.cells #[.slice a m c] 24) = w' := by
  refine callsIn_of_wp Try.func56 rfl trivial ?_ rfl
  simp only [Try.ntmps56, List.size_toArray, List.length_cons, List.length_nil, Nat.reduceAdd, Nat.reduceSub, Array.replicate_succ, Array.replicate_zero, List.push_toArray, List.append_toArray, List.nil_append, List.cons_append]
  gi_wp2
  go_ret
  exact ⟨rfl, rfl⟩
/-- The words of a label, handed to yield one after the other. -/
theorem itS_stops (n : Nat) (hn : 1 ≤ n) (Bs n₀ : Nat) (s : ByteArray) (hs : s.size ≤ 1000) (w : World) (hB : Bs < w.heap.size) (hc : w.cell? ⟨Bs, 0, none⟩ = some (.string s)) :
    SeqStopsK Fence.wide n Try.prog 68 #[.pointer (some ⟨Bs, 0, none⟩)] encW (KpI n₀ Bs) (fun ys => ys = wordsL s.data.toList) (fun pre => pre <+: wordsL s.data.toList) (wordsL s.data.toList).length w := fun l J Jx W hW _ _ hY h0 =>
  itS_in n hn l Bs n₀ s hs J Jx hY W ((hW.cell (p := ⟨Bs, 0, none⟩) hB).trans hc) h0
/-- The words of bytes. -/
theorem itB_stops (n : Nat) (hn : 1 ≤ n) (Bs n₀ : Nat) (bs : List UInt8) (a : Option Addr) (m c : Nat) (hm : m = bs.length) (hml : m ≤ 1000) (w : World) (hB : Bs < w.heap.size) (hn₀ : n₀ ≤ w.heap.size) (hc : w.cell? ⟨Bs, 0, none⟩ = some (.slice a m c)) (hR : Rd .u8 w n₀ (.slice a m c) (bI bs)) :
    SeqStopsK Fence.wide n Try.prog 64 #[.pointer (some ⟨Bs, 0, none⟩)] encW (KpI n₀ Bs) (fun ys => ys = wordsL bs) (fun pre => pre <+: wordsL bs) (wordsL bs).length w := fun l J Jx W hW _ _ hY h0 =>
  itB_in n hn l Bs n₀ bs a m c hm hml J Jx hY W ((hW.cell (p := ⟨Bs, 0, none⟩) hB).trans hc) (hR.below hW hn₀) h0
end Go.Proofs.Ytgcgifjfgmhhmaa
