/- Hashing of bytes, for longer texts. -/
import Derived.WalkKit
import Derived.Outline
import Derived.WalkSpells
import Derived.WalkLawsBesides
import Derived.LoopTactic
import Derived.Deep.DeepCutAuto
import Derived.RangeFuncNested
import Derived.RangeFuncBound
import Derived.RangeFuncCalls
import Derived.RangeFuncLeaves
import Derived.RangeFuncBox
import Derived.Shelf.Abstract
import Derived.Shelf.RegionOpen
import Derived.OwnWalkIn
import Derived.TacticsInMore
import Derived.LoopNIn
import Derived.LoopIn
import Derived.Test.YtbhnaffbgggabaaGreatGW
namespace Go.Proofs.YtbhnaffbgggabaaGreat
open Go.RowKit
theorem mix_any (a b : Int) (x y : BitVec 64) (w : World) (ha : a = x.toNat) (hb : b = y.toNat) :
  Calls Tryz.prog 186 #[.int .u64 a, .int .u64 b] w fun e w' => e = .returned (.int .u64 (mx x y).toNat) ∧ w = w' := by
 have h1 := x.isLt
 have h2 := y.isLt
 rw [two64] at h1 h2
 rw [← bits_mx, ← ha, ← hb]
 have h3 : 0 ≤ a ∧ a < 18446744073709551616 := by omega
 have h4 : 0 ≤ b ∧ b < 18446744073709551616 := by omega
 clear h1 h2 ha hb
 obtain ⟨h31, h32⟩ := h3
 obtain ⟨h41, h42⟩ := h4
 go_enter Tryz.func186, Tryz.ntmps186
 go_wp2
 go_ret
 exact ⟨rfl, rfl⟩
end Go.Proofs.YtbhnaffbgggabaaGreat
namespace Go.Proofs.YtbhnaffbgggabaaGreat
open Go.RowKit
theorem vs_snoc (k : IntKind) (xs : List Int) (x : Int) : vs k (xs ++ [x]) = vs k xs ++ [.int k x] := by simp [vs]
theorem mxi_take_succ {l : List Int} {k : Nat} (s : BitVec 64) (h : k < l.length) : mxi s (l.take (k + 1)) = mx (mxi s (l.take k)) (BitVec.ofInt 64 (l.getD k 0)) := by
 rw [List.take_add_one, List.getElem?_eq_getElem h, List.getD_eq_getElem?_getD, List.getElem?_eq_getElem h]
 exact mxi_snoc s _ _

theorem wrap_toInt (x : BitVec 64) : wrap64 (x.toNat : Int) = x.toInt := by rw [← i64_wrap64, i64_toInt]

end Go.Proofs.YtbhnaffbgggabaaGreat
namespace Go.Proofs.YtbhnaffbgggabaaGreat
open Go.RowKit
theorem ret_num {k : IntKind} {a b : Nat} (h : a = b) : Ending.returned (.int k (a : Int)) = .returned (.int k (b : Int)) := by rw [h]
theorem or_step (l : List UInt8) (k : Nat) (c : UInt8) (hk : k < 8) (h : l[k]? = some c) :
  bits .or .u64 (leN (l.take k) : Int) (IntKind.u64.wrap (IntKind.u64.wrap (c.toNat : Int) * 2 ^ (8 * k))) = (leN (l.take (k + 1)) : Int) := by
 have hc := c.toNat_lt
 rw [IntWalk.u64_in (c.toNat : Int) (by omega)]
 exact u64_or_shl l k c hk h
theorem wordAtS_any (s : ByteArray) (st : Nat) (w : World) (hs : s.size ≤ 20000) (h : st < s.size) :
  Calls Tryz.prog 228 #[.string s, .int .i64 st] w fun e w' => e = .returned (.int .u64 (wordL (s.data.toList.drop st)).toNat) ∧ w = w' := by
 go_enter Tryz.func228, Tryz.ntmps228
 by_cases h8 : st + 8 ≤ s.size
 ·go_wp2
  go_loop [5, 12] (fun v i => ∃ k : Nat, k ≤ 8 ∧ i = .int .i64 k ∧ v = .int .u64 (leN ((s.data.toList.drop st).take k) : Nat)) (fun _ i => 8 - (intOf i).toNat)
  case atStart => exact ⟨0, by omega, rfl, rfl⟩
  case round =>
   obtain ⟨k, hk, rfl, rfl⟩ := hrel
   by_cases hlt : k < 8
   ·go_wp2
    go_round
    case rel =>
     refine ⟨k + 1, by omega, by go_num, ?_⟩
     rw [or_step _ _ _ (by omega) (by rw [List.getElem?_drop]; exact List.getElem?_eq_getElem (by simp; omega))]
    case measure => simp [intOf]; omega
   ·go_wp2
    go_ret
    refine ⟨?_, rfl⟩
    rw [wordL_toNat]
    exact ret_num (by rw [show k = 8 by omega])
 ·go_wp2
  go_loop [5, 12] (fun v i => ∃ k : Nat, k ≤ s.size - st ∧ i = .int .i64 k ∧ v = .int .u64 (leN ((s.data.toList.drop st).take k) : Nat)) (fun _ i => s.size - st - (intOf i).toNat)
  case atStart => exact ⟨0, by omega, rfl, rfl⟩
  case round =>
   obtain ⟨k, hk, rfl, rfl⟩ := hrel
   by_cases hlt : k < s.size - st
   ·go_wp2
    go_round
    case rel =>
     refine ⟨k + 1, by omega, by go_num, ?_⟩
     rw [or_step _ _ _ (by omega) (by rw [List.getElem?_drop]; exact List.getElem?_eq_getElem (by simp; omega))]
    case measure => simp [intOf]; omega
   ·go_wp2
    go_ret
    refine ⟨?_, rfl⟩
    rw [wordL_toNat]
    exact ret_num (by rw [leN_take_all (by rw [List.length_drop]; simp; omega) (by omega)])

theorem wordAtB_any (l : List UInt8) (a : Option Addr) (n c B : Nat) (st : Nat) (w : World) (hn : n = l.length) (hl : n ≤ 20000) (hRd : Rd .u8 w B (.slice a n c) (bI l)) (hst : st < n) :
  Calls Tryz.prog 184 #[.slice a n c, .int .i64 st] w fun e w' => e = .returned (.int .u64 (wordL (l.drop st)).toNat) ∧ w = w' := by
 have HN := hJ hn
 clear hn
 go_enter Tryz.func184, Tryz.ntmps184
 by_cases h8 : st + 8 ≤ n
 ·go_wp2
  go_loop [5, 12] (fun v i => ∃ k : Nat, k ≤ 8 ∧ i = .int .i64 k ∧ v = .int .u64 (leN ((l.drop st).take k) : Nat)) (fun _ i => 8 - (intOf i).toNat)
  case atStart => exact ⟨0, by omega, rfl, rfl⟩
  case round =>
   obtain ⟨k, hk, rfl, rfl⟩ := hrel
   by_cases hlt : k < 8
   ·have hll : st + k < l.length := by rw [← HN.out]; omega
    obtain ⟨b, off, rfl, _, hcell⟩ := hRd.at_ (j := st + k) (by rw [bI_length]; exact hll)
    rw [bI_get hll] at hcell
    have HS := hJ (or_step (l.drop st) k (l[st + k]'hll) (by omega) (by rw [List.getElem?_drop]; exact List.getElem?_eq_getElem hll))
    generalize (l[st + k]'hll).toNat = c8 at hcell HS
    clear hRd hll
    go_wp2
    go_round
    case rel =>
     exact ⟨k + 1, by omega, by go_num, by rw [HS.out]⟩
    case measure => simp [intOf]; omega
   ·go_wp2
    go_ret
    refine ⟨?_, rfl⟩
    rw [wordL_toNat]
    exact ret_num (by rw [show k = 8 by omega])
 ·go_wp2
  go_loop [5, 12] (fun v i => ∃ k : Nat, k ≤ n - st ∧ i = .int .i64 k ∧ v = .int .u64 (leN ((l.drop st).take k) : Nat)) (fun _ i => n - st - (intOf i).toNat)
  case atStart => exact ⟨0, by omega, rfl, rfl⟩
  case round =>
   obtain ⟨k, hk, rfl, rfl⟩ := hrel
   by_cases hlt : k < n - st
   ·have hll : st + k < l.length := by rw [← HN.out]; omega
    obtain ⟨b, off, rfl, _, hcell⟩ := hRd.at_ (j := st + k) (by rw [bI_length]; exact hll)
    rw [bI_get hll] at hcell
    have HS := hJ (or_step (l.drop st) k (l[st + k]'hll) (by omega) (by rw [List.getElem?_drop]; exact List.getElem?_eq_getElem hll))
    generalize (l[st + k]'hll).toNat = c8 at hcell HS
    clear hRd hll
    go_wp2
    go_round
    case rel =>
     exact ⟨k + 1, by omega, by go_num, by rw [HS.out]⟩
    case measure => simp [intOf]; omega
   ·go_wp2
    go_ret
    refine ⟨?_, rfl⟩
    rw [wordL_toNat]
    exact ret_num (by rw [leN_take_all (by rw [List.length_drop]; rw [← HN.out]; omega) (by omega)])
end Go.Proofs.YtbhnaffbgggabaaGreat
namespace Go.Proofs.YtbhnaffbgggabaaGreat
open Go.RowKit Go.Shelf
attribute [local go_sem] Oper.semAt_some

/-- What a round must keep: what lay below n₀, and the iterator's own box. -/
def KpI (n₀ Bs : Nat) (A B : World) : Prop := Below n₀ A B ∧ B.heap[Bs]? = A.heap[Bs]?
theorem kp_t {n₀ Bs : Nat} {A B C : World} (h : KpI n₀ Bs A B) (k : KpI n₀ Bs B C) : KpI n₀ Bs A C := ⟨h.1.trans k.1, k.2.trans h.2⟩
theorem kp_b {n₀ Bs : Nat} {w : World} (hn : n₀ ≤ w.heap.size) (hB : Bs < w.heap.size) (W : World) (l : Nat) (o o' : Obj) (hl : w.heap.size ≤ l) (h : W.heap[l]? = some o) (h1 : o.isCells = false) (h2 : o.isWalk = false) : KpI n₀ Bs W (W.putObj l o') :=
 ⟨belowK_b hn W l o o' hl h h1 h2, World.putObj_heap_other (by omega)⟩
/-- The first k words. -/
theorem take_words (l : List UInt8) (k : Nat) (h : 8 * k < l.length) : (wordsL l).take (k + 1) = (wordsL l).take k ++ [wordL (l.drop (8 * k))] := wordsL_take_succ l h
theorem words_lt (l : List UInt8) (k : Nat) (h : 8 * k < l.length) : ((wordsL l).take k).length < (wordsL l).length := by
 rw [List.length_take, wordsL_length]; omega
def encW (x : BitVec 64) : Array Value := #[Value.int .u64 (x.toNat : Int)]

set_option maxRecDepth 100000 in
set_option maxHeartbeats 2000000 in
theorem itS_in (n : Nat) (hn : 1 ≤ n) (l Bs n₀ : Nat) (s : ByteArray) (hs : s.size ≤ 20000) (J Jx : List (BitVec 64) → World → Prop)
  (hY : ∀ pre x W, J pre W → pre.length < (wordsL s.data.toList).length → YieldAt Fence.wide (n - 1) Tryz.prog l (encW x) W fun e W' =>
   (e = .returned (.bool true) ∧ J (pre ++ [x]) W' ∧ KpI n₀ Bs W W') ∨ (e = .returned (.bool false) ∧ Jx (pre ++ [x]) W'))
  (W : World) (hBs : W.cell? ⟨Bs, 0, none⟩ = some (.string s)) (h0 : J [] W) :
  CallsIn Fence.wide n Tryz.prog 227 #[.func (.yield l) #[] #[], .pointer (some ⟨Bs, 0, none⟩)] W fun e W' => (∃ v, e = .returned v) ∧
   ((∃ ys, ys = wordsL s.data.toList ∧ J ys W') ∨ (∃ pre, pre <+: wordsL s.data.toList ∧ Jx pre W')) := by
 have HS := hJ (show s.data.toList.length = s.size by simp)
 refine callsIn_of_wp Tryz.func227 rfl trivial ?_ rfl
 simp only [Tryz.ntmps227, List.size_toArray, List.length_cons, List.length_nil, Nat.reduceAdd, Nat.reduceSub, Array.replicate_succ, Array.replicate_zero, List.push_toArray, List.append_toArray, List.nil_append, List.cons_append]
 gi_wp2
 gi_loopw [3] (fun i wr => ∃ k : Nat, 8 * k ≤ s.size + 7 ∧ i = .int .i64 (8 * (k : Int)) ∧ J ((wordsL s.data.toList).take k) wr ∧ wr.cell? ⟨Bs, 0, none⟩ = some (.string s))
  (fun i _ => s.size + 8 - (intOf i).toNat)
 case atStart => exact ⟨0, by omega, rfl, by simpa using h0, hBs⟩
 case round =>
  obtain ⟨k, hk, rfl, hJs, hcb⟩ := hrel
  by_cases hlt : 8 * k < s.size
  ·obtain ⟨x, hx⟩ : ∃ x, wordL (s.data.toList.drop (8 * k)) = x := ⟨_, rfl⟩
   have HT := hJ (take_words s.data.toList k (by rw [HS.out]; exact hlt))
   obtain ⟨fn, tmps, assign, body, hy, hR⟩ := hY _ x wr hJs (words_lt _ k (by rw [HS.out]; exact hlt))
   rw [hx] at HT
   have HW := hJ (wordAtS_any s (8 * k) · hs hlt)
   rw [hx] at HW
   unfold encW at hy
   clear hx
   gi_wp2_with (refine ⟨trivial, ?_⟩; gi_at_call 228; refine (callsIn_wide.2 (HW.out _)).mono ?_; rintro e w' ⟨rfl, rfl⟩)
   refine hR.mono ?_
   rintro e W3 (⟨rfl, hJ3, hk3⟩ | ⟨rfl, hJx3⟩)
   ·have hc3 : W3.cell? ⟨Bs, 0, none⟩ = some (.string s) := (World.cell?_of_block (a := ⟨Bs, 0, none⟩) hk3.2).trans hcb
    gi_wp2
    go_roundw
    case rel => exact ⟨k + 1, by omega, by go_num, by rw [HT.out]; exact hJ3, hc3⟩
    case measure => simp [intOf]; omega
   ·gi_wp2
    refine bodyPost_ret (results_none rfl _ _ _) rfl ?_
    exact ⟨⟨_, rfl⟩, .inr ⟨_, by rw [← HT.out]; exact List.take_prefix _ _, hJx3⟩⟩
  ·gi_wp2
   go_end0
   exact ⟨⟨_, rfl⟩, .inl ⟨_, wordsL_take_all _ (by rw [HS.out]; omega), hJs⟩⟩
set_option maxRecDepth 100000 in
set_option maxHeartbeats 2000000 in
theorem itB_in (n : Nat) (hn : 1 ≤ n) (l Bs n₀ : Nat) (bs : List UInt8) (a : Option Addr) (m c : Nat) (hm : m = bs.length) (hml : m ≤ 20000) (J Jx : List (BitVec 64) → World → Prop)
  (hY : ∀ pre x W, J pre W → pre.length < (wordsL bs).length → YieldAt Fence.wide (n - 1) Tryz.prog l (encW x) W fun e W' =>
   (e = .returned (.bool true) ∧ J (pre ++ [x]) W' ∧ KpI n₀ Bs W W') ∨ (e = .returned (.bool false) ∧ Jx (pre ++ [x]) W'))
  (W : World) (hBs : W.cell? ⟨Bs, 0, none⟩ = some (.slice a m c)) (hRd : Rd .u8 W n₀ (.slice a m c) (bI bs)) (h0 : J [] W) :
  CallsIn Fence.wide n Tryz.prog 183 #[.func (.yield l) #[] #[], .pointer (some ⟨Bs, 0, none⟩)] W fun e W' => (∃ v, e = .returned v) ∧
   ((∃ ys, ys = wordsL bs ∧ J ys W') ∨ (∃ pre, pre <+: wordsL bs ∧ Jx pre W')) := by
 have HS := hJ hm.symm
 have HR := hJ hRd
 clear hm hRd
 refine callsIn_of_wp Tryz.func183 rfl trivial ?_ rfl
 simp only [Tryz.ntmps183, List.size_toArray, List.length_cons, List.length_nil, Nat.reduceAdd, Nat.reduceSub, Array.replicate_succ, Array.replicate_zero, List.push_toArray, List.append_toArray, List.nil_append, List.cons_append]
 gi_wp2
 gi_loopw [3] (fun i wr => ∃ k : Nat, 8 * k ≤ m + 7 ∧ i = .int .i64 (8 * (k : Int)) ∧ J ((wordsL bs).take k) wr ∧ wr.cell? ⟨Bs, 0, none⟩ = some (.slice a m c) ∧ Below n₀ W wr)
  (fun i _ => m + 8 - (intOf i).toNat)
 case atStart => exact ⟨0, by omega, rfl, by simpa using h0, hBs, Below.refl _ _⟩
 case round =>
  obtain ⟨k, hk, rfl, hJs, hcb, hbel⟩ := hrel
  by_cases hlt : 8 * k < m
  ·obtain ⟨x, hx⟩ : ∃ x, wordL (bs.drop (8 * k)) = x := ⟨_, rfl⟩
   have HT := hJ (take_words bs k (by rw [HS.out]; exact hlt))
   obtain ⟨fn, tmps, assign, body, hy, hR⟩ := hY _ x wr hJs (words_lt _ k (by rw [HS.out]; exact hlt))
   rw [hx] at HT
   have HW := hJ (wordAtB_any bs a m c n₀ (8 * k) wr HS.out.symm hml (HR.out.below hbel (Nat.le_refl _)) hlt)
   rw [hx] at HW
   unfold encW at hy
   clear hx
   gi_wp2_with (refine ⟨trivial, ?_⟩; gi_at_call 184; refine (callsIn_wide.2 HW.out).mono ?_; rintro e w' ⟨rfl, rfl⟩)
   refine hR.mono ?_
   rintro e W3 (⟨rfl, hJ3, hk3⟩ | ⟨rfl, hJx3⟩)
   ·have hc3 : W3.cell? ⟨Bs, 0, none⟩ = some (.slice a m c) := (World.cell?_of_block (a := ⟨Bs, 0, none⟩) hk3.2).trans hcb
    gi_wp2
    go_roundw
    case rel => exact ⟨k + 1, by omega, by go_num, by rw [HT.out]; exact hJ3, hc3, hbel.trans hk3.1⟩
    case measure => simp [intOf]; omega
   ·gi_wp2
    refine bodyPost_ret (results_none rfl _ _ _) rfl ?_
    exact ⟨⟨_, rfl⟩, .inr ⟨_, by rw [← HT.out]; exact List.take_prefix _ _, hJx3⟩⟩
  ·gi_wp2
   go_end0
   exact ⟨⟨_, rfl⟩, .inl ⟨_, wordsL_take_all _ (by rw [HS.out]; omega), hJs⟩⟩

theorem wordsOfS_in (n : Nat) (s : ByteArray) (w : World) :
  CallsIn Fence.wide n Tryz.prog 185 #[.string s] w fun e w' => e = .returned (.func (.func 227) #[] #[.pointer (some ⟨w.heap.size, 0, none⟩)]) ∧ w.alloc (.cells #[.string s] 9) = w' := by
 refine callsIn_of_wp Tryz.func185 rfl trivial ?_ rfl
 simp only [Tryz.ntmps185, List.size_toArray, List.length_cons, List.length_nil, Nat.reduceAdd, Nat.reduceSub, Array.replicate_succ, Array.replicate_zero, List.push_toArray, List.append_toArray, List.nil_append, List.cons_append]
 gi_wp2
 go_ret
 exact ⟨rfl, rfl⟩
theorem wordsOfB_in (n : Nat) (a : Option Addr) (m c : Nat) (w : World) :
  CallsIn Fence.wide n Tryz.prog 128 #[.slice a m c] w fun e w' => e = .returned (.func (.func 183) #[] #[.pointer (some ⟨w.heap.size, 0, none⟩)]) ∧ w.alloc (.cells #[.slice a m c] 72) = w' := by
 refine callsIn_of_wp Tryz.func128 rfl trivial ?_ rfl
 simp only [Tryz.ntmps128, List.size_toArray, List.length_cons, List.length_nil, Nat.reduceAdd, Nat.reduceSub, Array.replicate_succ, Array.replicate_zero, List.push_toArray, List.append_toArray, List.nil_append, List.cons_append]
 gi_wp2
 go_ret
 exact ⟨rfl, rfl⟩
/-- The words of a label, handed to yield one after the other. -/
theorem itS_stops (n : Nat) (hn : 1 ≤ n) (Bs n₀ : Nat) (s : ByteArray) (hs : s.size ≤ 20000) (w : World) (hB : Bs < w.heap.size) (hc : w.cell? ⟨Bs, 0, none⟩ = some (.string s)) :
  SeqStopsK Fence.wide n Tryz.prog 227 #[.pointer (some ⟨Bs, 0, none⟩)] encW (KpI n₀ Bs) (fun ys => ys = wordsL s.data.toList) (fun pre => pre <+: wordsL s.data.toList) (wordsL s.data.toList).length w := fun l J Jx W hW _ _ hY h0 =>
 itS_in n hn l Bs n₀ s hs J Jx hY W ((hW.cell (p := ⟨Bs, 0, none⟩) hB).trans hc) h0
/-- The words of bytes. -/
theorem itB_stops (n : Nat) (hn : 1 ≤ n) (Bs n₀ : Nat) (bs : List UInt8) (a : Option Addr) (m c : Nat) (hm : m = bs.length) (hml : m ≤ 20000) (w : World) (hB : Bs < w.heap.size) (hn₀ : n₀ ≤ w.heap.size) (hc : w.cell? ⟨Bs, 0, none⟩ = some (.slice a m c)) (hR : Rd .u8 w n₀ (.slice a m c) (bI bs)) :
  SeqStopsK Fence.wide n Tryz.prog 183 #[.pointer (some ⟨Bs, 0, none⟩)] encW (KpI n₀ Bs) (fun ys => ys = wordsL bs) (fun pre => pre <+: wordsL bs) (wordsL bs).length w := fun l J Jx W hW _ _ hY h0 =>
 itB_in n hn l Bs n₀ bs a m c hm hml J Jx hY W ((hW.cell (p := ⟨Bs, 0, none⟩) hB).trans hc) (hR.below hW hn₀) h0
end Go.Proofs.YtbhnaffbgggabaaGreat
namespace Go.Proofs.YtbhnaffbgggabaaGreat
open Go.RowKit Go.Shelf
attribute [local go_sem] Oper.semAt_some

set_option maxRecDepth 100000 in
set_option maxHeartbeats 2000000 in
theorem sum_in (s : ByteArray) (ws : List Int) (a : Option Addr) (n c B : Nat) (w : World) (hs : s.size ≤ 20000) (hn : n = ws.length) (hl : n ≤ 20000) (h : Rd .i64 w B (.slice a n c) ws) (hB : B ≤ w.heap.size) :
  CallsIn Fence.wide 6 Tryz.prog 129 #[.string s, .slice a n c] w fun e W' => e = .returned (.int .u64 (sumS s.data.toList ws).toNat) ∧ Below w.heap.size w W' := by
 have HN := hJ hn
 have HR := hJ h
 clear hn h
 refine callsIn_of_wp_marks Tryz.func129 rfl trivial ?_ rfl
 simp only [Tryz.ntmps129, List.size_toArray, List.length_cons, List.length_nil, Nat.reduceAdd, Nat.reduceSub, Array.replicate_succ, Array.replicate_zero, List.push_toArray, List.append_toArray, List.nil_append, List.cons_append]
 gi_wp2_with (refine ⟨trivial, ?_⟩; gi_at_call 185; refine (wordsOfS_in _ _ _).mono ?_; rintro e w' ⟨rfl, rfl⟩)
 have bS := Boxed.new w 83 (.int .u64 0)
 have bN := Boxed.new (w.alloc (.cells #[.int .u64 0] 83)) 9 (.string s)
 rw [World.size_alloc] at bN
 have hB0 : Below w.heap.size w ((w.alloc (.cells #[.int .u64 0] 83)).alloc (.cells #[.string s] 9)) := ((Below.refl _ w).alloc (Nat.le_refl _) _).alloc (by simp) _
 refine wpIn_rangeFunc_ownG rfl (by decide) (gf := 227) (lb := #[.pointer (some ⟨w.heap.size + 1, 0, none⟩)]) rfl trivial (enters_of Tryz.func227 (by kernel_rfl) rfl)
  (itS_stops (6 - 1) (by decide) (w.heap.size + 1) w.heap.size s hs _ (by simp) bN.cell) kp_t (kp_b (by simp; omega) (by simp)) (Below.refl _ _) (fun _ => rfl)
  (fun pre W => (W.cell? ⟨w.heap.size, 0, none⟩ = some (.int .u64 (mxs 0#64 pre).toNat) ∧ W.frozen? ⟨w.heap.size, 0, none⟩ = false) ∧ Below w.heap.size w W)
  (fun _ _ _ => False)
  (OwnFrom.and (Own.from (fun s A B row hs hg hr => ⟨cell_kept hs.1 hg hr, (frozen_kept hs.1 hg hr).trans hs.2⟩) _) (ownFrom_below (Nat.le_refl _) (by simp; omega)))
  (fun _ _ _ _ _ hs _ _ => hs)
  ⟨⟨(bS.alloc _).cell, (bS.alloc _).frozen⟩, hB0⟩
  (fun x => { tmps := #[.string s, .slice a n c, undef, undef, .int .u64 0, .pointer (some ⟨w.heap.size, 0, none⟩), .int .u64 (x.toNat : Int), undef, undef, .string s, .func (.func 227) #[] #[.pointer (some ⟨w.heap.size + 1, 0, none⟩)], .int .u64 (x.toNat : Int), undef, undef, undef, undef, undef, undef, undef, undef, undef, undef, undef, undef, undef, undef, undef, undef, undef, undef, undef, undef, undef, undef, undef, undef, undef, undef], defers := [] }) ?assign ?body ?done ?stop
 case assign =>
  intro l x W K hK
  unfold encW
  gi_wp2
  exact hK
 case body =>
  rintro l pre x W ⟨⟨hc, hf⟩, hb⟩ _
  have HM := hJ (mxs_snoc 0#64 pre x)
  gi_wp2_with (refine ⟨trivial, ?_⟩; gi_at_call 186; refine (CallsIn.inRound l (callsIn_wide.2 (mix_any _ _ (mxs 0#64 pre) x _ rfl rfl))).mono ?_; rintro e w' ⟨rfl, rfl⟩)
  exact ⟨(KeepsOthers.setCell _ _ _).from _, ⟨(Below.refl _ _).setCell (p := ⟨w.heap.size, 0, none⟩) (Nat.le_refl _) _, Below.heap_setCell _ _ _ _ (by simp)⟩, ⟨by rw [HM.out]; exact World.cell?_setCell_same' _ _ _ (by rw [hc]; rfl), by rw [World.frozen?_setCell]; exact hf⟩, hb.setCell (p := ⟨w.heap.size, 0, none⟩) (Nat.le_refl _) _⟩
 case done =>
  rintro D ys W hD rfl ⟨⟨hc, hf⟩, hb⟩ hK
  have e1 : ((s.size : Nat) : Int) = ((BitVec.ofNat 64 s.size).toNat : Int) := ofNat_small _ (by omega)
  have e2 : ((n : Nat) : Int) = ((BitVec.ofNat 64 n).toNat : Int) := ofNat_small _ (by omega)
  have E1 := hJ e1
  have E2 := hJ e2
  clear e1 e2
  gi_wp2_with fail
  refine ⟨trivial, ?_⟩
  refine (callsIn_wide.2 (mix_any _ _ (mxs 0#64 (wordsL s.data.toList)) (BitVec.ofNat 64 s.size) _ rfl E1.out)).mono ?_
  rintro e w' ⟨rfl, rfl⟩
  gi_wp2_with fail
  refine ⟨trivial, ?_⟩
  refine (callsIn_wide.2 (mix_any _ _ (mx (mxs 0#64 (wordsL s.data.toList)) (BitVec.ofNat 64 s.size)) (BitVec.ofNat 64 n) _ rfl E2.out)).mono ?_
  rintro e w' ⟨rfl, rfl⟩
  gi_wp2_with fail
  obtain ⟨hd, hhd⟩ : ∃ hd, mx (mx (mxs 0#64 (wordsL s.data.toList)) (BitVec.ofNat 64 s.size)) (BitVec.ofNat 64 n) = hd := ⟨_, rfl⟩
  rw [hhd]
  have HD := hJ (show headS s.data.toList ws.length = hd by rw [← hhd, ← HN.out, headS]; simp)
  clear hhd
  have hDw : D ≠ w.heap.size := by simp at hD; omega
  obtain ⟨wa, hwa⟩ : ∃ wa, (W.setCell ⟨w.heap.size, 0, none⟩ (.int .u64 (mx (mxs 0#64 (wordsL s.data.toList)) (BitVec.ofNat 64 s.size)).toNat)).setCell ⟨w.heap.size, 0, none⟩ (.int .u64 hd.toNat) = wa := ⟨_, rfl⟩
  have ca : wa.cell? ⟨w.heap.size, 0, none⟩ = some (.int .u64 hd.toNat) := by
   rw [← hwa]
   exact World.cell?_setCell_same' _ _ _ (by rw [World.cell?_setCell_same' _ _ _ (by rw [hc]; rfl)]; rfl)
  have fa : wa.frozen? ⟨w.heap.size, 0, none⟩ = false := by rw [← hwa, World.frozen?_setCell, World.frozen?_setCell]; exact hf
  have ba : Below w.heap.size w wa := by rw [← hwa]; exact (hb.setCell (p := ⟨w.heap.size, 0, none⟩) (Nat.le_refl _) _).setCell (p := ⟨w.heap.size, 0, none⟩) (Nat.le_refl _) _
  have ka : wa.heap[D]? = some (.deferred (some [])) := by rw [← hwa, Below.heap_setCell _ _ _ _ hDw, Below.heap_setCell _ _ _ _ hDw]; exact hK
  rw [hwa]
  clear hwa hc hf hb hK
  gi_loopw [27] (fun i wr => ∃ k : Nat, k ≤ n ∧ i = .int .i64 k ∧ (wr.cell? ⟨w.heap.size, 0, none⟩ = some (.int .u64 (mxi hd (ws.take k)).toNat) ∧ wr.frozen? ⟨w.heap.size, 0, none⟩ = false) ∧ Below w.heap.size w wr ∧ wr.heap[D]? = some (.deferred (some [])))
   (fun i _ => n - (intOf i).toNat)
  case atStart => exact ⟨0, by omega, rfl, ⟨ca, fa⟩, ba, ka⟩
  case round =>
   obtain ⟨k, hk, rfl, ⟨hc, hf⟩, hb, hK⟩ := hrel
   clear ca fa ba ka
   by_cases hlt : k < n
   ·have hkl : k < ws.length := by rw [← HN.out]; exact hlt
    obtain ⟨b, off, rfl, _, hcell⟩ := (HR.out.below hb hB).at_ (j := k) hkl
    have HS := hJ (mxi_take_succ hd hkl)
    generalize ws.getD k 0 = x at hcell HS
    have EX := hJ (u64_ofInt x)
    gi_wp2_with (refine ⟨trivial, ?_⟩; gi_at_call 186; refine (callsIn_wide.2 (mix_any _ _ (mxi hd (ws.take k)) (BitVec.ofInt 64 x) _ rfl EX.out)).mono ?_; rintro e w' ⟨rfl, rfl⟩)
    go_roundw
    case rel =>
     exact ⟨k + 1, by omega, by go_num, ⟨by rw [HS.out]; exact World.cell?_setCell_same' _ _ _ (by rw [hc]; rfl), by rw [World.frozen?_setCell]; exact hf⟩, hb.setCell (p := ⟨w.heap.size, 0, none⟩) (Nat.le_refl _) _, (Below.heap_setCell _ _ _ _ hDw).trans hK⟩
    case measure => simp [intOf]; omega
   ·have hend : ws.take k = ws := List.take_of_length_le (by rw [← HN.out]; omega)
    rw [hend] at hc
    clear hend
    gi_wp2_with (refine ⟨trivial, ?_⟩; gi_at_call 186; refine (callsIn_wide.2 (mix_any _ _ (mxi hd ws) 0#64 _ rfl rfl)).mono ?_; rintro e w' ⟨rfl, rfl⟩)
    refine ⟨by simp, .inl ⟨_, _, rfl, run_takeDeferred hK, ?_⟩⟩
    refine ⟨_, results_tmp rfl _ _ _, ?_, hb.trans (belowK_b (w := w) (Nat.le_refl _) _ D _ _ (by simp at hD; omega) hK rfl rfl)⟩
    rw [sumS, HD.out]
    rfl
 case stop =>
  rintro D c pre W _ _ h _
  exact h.elim
theorem hsum_any (s : ByteArray) (ws : List Int) (a : Option Addr) (n c B : Nat) (w : World) (hs : s.size ≤ 20000) (hn : n = ws.length) (hl : n ≤ 20000) (h : Rd .i64 w B (.slice a n c) ws) (hB : B ≤ w.heap.size) :
  Calls Tryz.prog 129 #[.string s, .slice a n c] w fun e W' => e = .returned (.int .u64 (sumS s.data.toList ws).toNat) ∧ Below w.heap.size w W' :=
 callsIn_wide.1 (sum_in s ws a n c B w hs hn hl h hB)

end Go.Proofs.YtbhnaffbgggabaaGreat
namespace Go.Proofs.YtbhnaffbgggabaaGreat
open Go.RowKit Go.Shelf
attribute [local go_sem] Oper.semAt_some

set_option maxRecDepth 100000 in
set_option maxHeartbeats 2000000 in
theorem bytes_in (s : ByteArray) (bs : List UInt8) (a : Option Addr) (m c B : Nat) (w : World) (hs : s.size ≤ 20000) (hm : m = bs.length) (hml : m ≤ 20000) (hR : Rd .u8 w B (.slice a m c) (bI bs)) (hB : B ≤ w.heap.size) :
  CallsIn Fence.wide 8 Tryz.prog 61 #[.string s, .slice a m c] w fun e W' => e = .returned (.int .u64 (bytesS s.data.toList bs).toNat) ∧ Below w.heap.size w W' := by
 obtain ⟨i0, hi0, hz0, hz1, hz2⟩ := info_parts int_info
 have HM := hJ hm
 have HR := hJ hR
 clear hm hR
 refine callsIn_of_wp_marks Tryz.func61 rfl trivial ?_ rfl
 simp only [Tryz.ntmps61, List.size_toArray, List.length_cons, List.length_nil, Nat.reduceAdd, Nat.reduceSub, Array.replicate_succ, Array.replicate_zero, List.push_toArray, List.append_toArray, List.nil_append, List.cons_append]
 have H1 := hJ (show i0.bytes * (m / 8 + 2) ≤ 281474976710656 by rw [hz2]; omega)
 have H2 := hJ (show m / 8 + 2 ≤ maxLen by unfold maxLen; omega)
 gi_wp2_with (first | (gi_at_make; refine wpListIn_make_own _ rfl _ _ 22 rfl w.heap.size 3 i0 (.int .i64 0) 1 Tryz.underlying22 hi0 hz0 hz1 .i64 .i64 _ (m / 8 + 2) rfl rfl (by omega) H1.out H2.out (Nat.le_refl _) ?_; intro w1 hown1 hgrow1) | (refine ⟨trivial, ?_⟩; gi_at_call 128; refine (wordsOfB_in _ _ _ _ _).mono ?_; rintro e w' ⟨rfl, rfl⟩))
 have hbx : w.heap.size ≤ w1.heap.size := hgrow1.size
 have hb1 : Below w.heap.size w w1 := (Below.refl _ w).grown hgrow1 (Nat.le_refl _) (by simp)
 have bO := Boxed.new w1 22 (.slice (some ⟨w.heap.size, 0, none⟩) 0 (m / 8 + 2))
 have bN := Boxed.new (w1.alloc (.cells #[.slice (some ⟨w.heap.size, 0, none⟩) 0 (m / 8 + 2)] 22)) 72 (.slice a m c)
 rw [World.size_alloc] at bN
 have hB0 : Below w.heap.size w ((w1.alloc (.cells #[.slice (some ⟨w.heap.size, 0, none⟩) 0 (m / 8 + 2)] 22)).alloc (.cells #[.slice a m c] 72)) := (hb1.alloc hbx _).alloc (by simp; omega) _
 have HWL := hJ (show (wordsL bs).length ≤ 4000 by rw [wordsL_length, ← HM.out]; omega)
 refine wpIn_rangeFunc_ownG rfl (by decide) (gf := 183) (lb := #[.pointer (some ⟨w1.heap.size + 1, 0, none⟩)]) rfl trivial (enters_of Tryz.func183 (by kernel_rfl) rfl)
  (itB_stops (8 - 1) (by decide) (w1.heap.size + 1) w.heap.size bs a m c HM.out hml _ (by simp) (by simp; omega) bN.cell ((HR.out.below hB0 hB).mono hB)) kp_t (kp_b (by simp; omega) (by simp)) (Below.refl _ _) (fun _ => rfl)
  (fun pre W => ((∃ v, Boxed W w1.heap.size 22 v ∧ W.ownsRow w.heap.size 3 1 v pre.length (vs .i64 (pre.map (·.toInt))) ∧ True) ∧ Boxed W (w1.heap.size + 1) 72 (.slice a m c)) ∧ Below w.heap.size w W)
  (fun _ _ _ => False)
  (OwnFrom.and (OwnFrom.and (Own.from (holdsRow_own w.heap.size w1.heap.size 22 3 1 (fun pre : List (BitVec 64) => pre.length) (fun pre => vs .i64 (pre.map (·.toInt))) (fun _ _ => True)) _) (Own.from (boxed_own (w1.heap.size + 1) 72 (fun _ => .slice a m c)) _)) (ownFrom_below (Nat.le_refl _) (by simp; omega)))
  (fun _ _ _ _ _ hs _ _ => hs)
  ⟨⟨⟨_, bO.alloc _, (hown1.alloc _).alloc _, trivial⟩, bN⟩, hB0⟩
  (fun x => { tmps := #[.string s, .slice a m c, undef, undef, .int .u64 0, .pointer (some ⟨w1.heap.size, 0, none⟩), .int .u64 (x.toNat : Int), .slice a m c, .int .i64 (m : Int), .int .i64 ((m : Int) / 8), .int .i64 ((m : Int) / 8 + 2), .slice (some ⟨w.heap.size, 0, none⟩) 0 (m / 8 + 2), .slice a m c, .func (.func 183) #[] #[.pointer (some ⟨w1.heap.size + 1, 0, none⟩)], .int .u64 (x.toNat : Int), undef, undef, undef, undef, undef, undef, undef, undef, undef, undef, undef, undef], defers := [] }) ?assign ?body ?done ?stop
 case assign =>
  intro l x W K hK
  unfold encW
  gi_wp2
  exact hK
 case body =>
  rintro l pre x W ⟨⟨⟨v, hv, hrow, _⟩, hbs⟩, hb⟩ hlt
  have hc := hv.cell
  have hxt := wrap_toInt x
  have HO1 := hJ (vs_one .i64 [x.toInt])
  have HO2 := hJ (show pre.length + 1 ≤ maxLen by have := HWL.out; unfold maxLen; omega)
  have HO3 := hJ (show (pre.length + 1) * 8 ≤ 140737488355328 by have := HWL.out; omega)
  have HO4 := hJ (show w.heap.size ≤ (W.alloc (.cells #[.int .i64 x.toInt] 3)).heap.size by have := hb.size; simp; omega)
  have HSN := hJ (show vs .i64 ((pre ++ [x]).map (·.toInt)) = vs .i64 (pre.map (·.toInt)) ++ [.int .i64 x.toInt] by rw [List.map_append, List.map_singleton, vs_snoc])
  clear hlt
  gi_wp2_with (gi_at_builtin; refine wpListIn_append_own _ rfl _ _ 22 rfl w.heap.size 3 i0 (.int .i64 0) 1 8 Tryz.underlying22 hi0 hz0 hz1 hz2 rfl (by decide) _ _ _ rfl (hrow.alloc _) ⟨W.heap.size, 0, none⟩ 1 1 [.int .i64 x.toInt] rfl rfl (cell_one_new _ _ _) HO1.out HO2.out HO3.out HO4.out ?_; intro v' w2 hown' hgrow _; obtain ⟨g', cap', rfl⟩ := ownsRow_succ hown'; obtain ⟨hv1, hv2, hr2, hk2, hb2⟩ := hv.appended (by decide) hrow hb.size hbx hown' hgrow; have hc1 := hv1.cell; have hf1 := hv1.frozen)
  have hsame : (w2.setCell ⟨w1.heap.size, 0, none⟩ (.slice (some ⟨g', 0, none⟩) (pre.length + 1) cap')).heap[w1.heap.size + 1]? = W.heap[w1.heap.size + 1]? :=
   (Below.heap_setCell _ _ _ _ (by simp)).trans ((hgrow.block _ (by have := hbs.lt; simp; omega) (hbs.not_row (by decide) hrow)).trans (Below.heap_alloc W _ _ hbs.lt))
  refine ⟨hk2.from _, ⟨hb2, hsame⟩, ⟨⟨_, hv2, ?_⟩, hsame.trans hbs⟩, hb.trans hb2⟩
  rw [HSN.out, List.length_append]
  exact hr2
 case done =>
  rintro D ys W hD rfl ⟨⟨⟨v, hv, hrow, _⟩, hbs⟩, hb⟩ hK
  have hc := hv.cell
  have HO1 := hJ (vs_one .i64 [(m : Int)])
  have HO2 := hJ (show (wordsL bs).length + 1 ≤ maxLen by have := HWL.out; unfold maxLen; omega)
  have HO3 := hJ (show ((wordsL bs).length + 1) * 8 ≤ 140737488355328 by have := HWL.out; omega)
  have HO4 := hJ (show w.heap.size ≤ (W.alloc (.cells #[.int .i64 (m : Int)] 3)).heap.size by have := hb.size; simp; omega)
  gi_wp2_with (gi_at_builtin; refine wpListIn_append_own _ rfl _ _ 22 rfl w.heap.size 3 i0 (.int .i64 0) 1 8 Tryz.underlying22 hi0 hz0 hz1 hz2 rfl (by decide) _ _ _ rfl (hrow.alloc _) ⟨W.heap.size, 0, none⟩ 1 1 [.int .i64 (m : Int)] rfl rfl (cell_one_new _ _ _) HO1.out HO2.out HO3.out HO4.out ?_; intro v' w2 hown' hgrow _)
  have hb2 : Below w.heap.size w w2 := (hb.alloc (by have := hb.size; omega) _).grown hgrow (by have := hb.size; simp; omega) (own_block_ge hrow)
  have hDlt : D < W.heap.size := (Array.getElem?_eq_some_iff.1 hK).1
  have hne : some D ≠ v.ownBlock := by
   intro e
   rcases hrow.2 with ⟨rfl, _⟩ | ⟨g, cap, cur, rfl, _, hgb, _⟩
   ·simp [Value.ownBlock] at e
   ·obtain rfl : D = g := by simpa [Value.ownBlock] using e
    rw [hK] at hgb; cases hgb
  have hK2 : w2.heap[D]? = some (.deferred (some [])) := ((hgrow.block D (by simp; omega) hne).trans (Below.heap_alloc W _ _ hDlt)).trans hK
  obtain ⟨a', c', rfl⟩ := own_form hown'
  have hr' : Rd .i64 w2 w2.heap.size (.slice a' ((wordsL bs).length + 1) c') (argsB bs) := by
   refine Rd.own (n := (wordsL bs).length + 1) (e := 3) (base := w.heap.size) ?_
   rw [argsB, ← HM.out, vs_snoc]
   exact hown'
  have hlen : (wordsL bs).length + 1 = (argsB bs).length := by simp [argsB]
  have HE := hJ hlen
  have HR' := hJ hr'
  have HL2 := hJ (show (wordsL bs).length + 1 ≤ 20000 by have := HWL.out; omega)
  clear hgrow hrow hown' hr' hlen hne hv hc hbs
  gi_wp2_with fail
  refine ⟨trivial, ?_⟩
  refine (callsIn_wide.2 (hsum_any s (argsB bs) _ _ c' w2.heap.size w2 hs HE.out HL2.out HR'.out (Nat.le_refl _))).mono ?_
  rintro e w3 ⟨rfl, hb3⟩
  have hK3 : w3.heap[D]? = some (.deferred (some [])) := (hb3.block D (Array.getElem?_eq_some_iff.1 hK2).1).trans hK2
  gi_wp2
  refine ⟨by simp, .inl ⟨_, _, rfl, run_takeDeferred hK3, ?_⟩⟩
  refine ⟨_, results_tmp rfl _ _ _, rfl, (hb2.trans (hb3.mono hb2.size)).trans (belowK_b (w := w) (Nat.le_refl _) _ D _ _ (by simp at hD; omega) hK3 rfl rfl)⟩
 case stop =>
  rintro D c pre W _ _ h _
  exact h.elim
theorem bytes_any (s : ByteArray) (bs : List UInt8) (a : Option Addr) (m c B : Nat) (w : World) (hs : s.size ≤ 20000) (hm : m = bs.length) (hml : m ≤ 20000) (hR : Rd .u8 w B (.slice a m c) (bI bs)) (hB : B ≤ w.heap.size) :
  Calls Tryz.prog 61 #[.string s, .slice a m c] w fun e W' => e = .returned (.int .u64 (bytesS s.data.toList bs).toNat) ∧ Below w.heap.size w W' :=
 callsIn_wide.1 (bytes_in s bs a m c B w hs hm hml hR hB)
end Go.Proofs.YtbhnaffbgggabaaGreat
