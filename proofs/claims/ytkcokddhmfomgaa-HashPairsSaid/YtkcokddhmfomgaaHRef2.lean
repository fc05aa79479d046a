/- Contracts of the reference's Sum, Bytes and Pair: they return the hash of P1.1 and P1.2; what lay lies as it lay. -/
import Derived.Test.YtkcokddhmfomgaaHRef
namespace Go.Proofs.Ytkcokddhmfomgaa
open Go.RowKit
theorem wI_get {l : List (BitVec 64)} {j : Nat} (h : j < l.length) : (wI l).getD j 0 = ((l[j]).toNat : Int) := by
  simp [wI, h]
theorem mxs_take_succ {l : List (BitVec 64)} {k : Nat} (s : BitVec 64) (h : k < l.length) : mxs s (l.take (k + 1)) = mx (mxs s (l.take k)) l[k] := by
  rw [List.take_add_one, List.getElem?_eq_getElem h]
  exact mxs_snoc s _ _
theorem mxi_take_succ {l : List Int} {k : Nat} (s : BitVec 64) (h : k < l.length) : mxi s (l.take (k + 1)) = mx (mxi s (l.take k)) (BitVec.ofInt 64 (l.getD k 0)) := by
  rw [List.take_add_one, List.getElem?_eq_getElem h, List.getD_eq_getElem?_getD, List.getElem?_eq_getElem h]
  exact mxi_snoc s _ _

set_option maxHeartbeats 800000 in
theorem refsum_any (s : ByteArray) (ws : List Int) (a : Option Addr) (n c B : Nat) (w : World) (hs : s.size ≤ 1000) (hn : n = ws.length) (hl : ws.length ≤ 1000) (h : Rd .i64 w B (.slice a n c) ws) (hB : B ≤ w.heap.size) :
    Calls Try.prog 14 #[.string s, .slice a n c] w fun e w' => e = .returned (.int .u64 (sumS s.data.toList ws).toNat) ∧ Below w.heap.size w w' := by
  obtain ⟨W1, c1, hconv, hb1, hr1⟩ := conv_bytes (P := Try.prog) w 9 30 5 s Try.underlying9 Try.underlying30 Try.underlying5
  have hn1 : n ≤ 1000 := by omega
  have HN := Lib.hid hn
  have HR := Lib.hid hr1
  have hsz : s.data.toList.length ≤ 1000 := by simpa using hs
  have HZ := Lib.hid hsz
  have hh := h.below hb1 hB
  have HH := Lib.hid hh
  clear hn hr1 hsz hh h hl
  go_enter Try.func14, Try.ntmps14
  go_wp2_with fail
  refine (words_any s.data.toList _ s.size c1 W1.heap.size W1 (by simp) HZ.out HR.out (Nat.le_refl _)).mono ?_
  rintro e W2 ⟨a2, c2, rfl, hown2, hb2⟩
  have hb12 : Below w.heap.size w W2 := hb1.trans (hb2.mono hb1.size)
  have hr2 := Rd.own hown2
  obtain ⟨ls, hls⟩ : ∃ ls, wordsL s.data.toList = ls := ⟨_, rfl⟩
  rw [hls] at hr2 ⊢
  obtain ⟨m2, hm2⟩ : ∃ m, (wI ls).length = m := ⟨_, rfl⟩
  rw [hm2] at hr2 ⊢
  have hmm : m2 ≤ 1000 := by rw [← hm2, wI_length, ← hls, wordsL_length]; have := HZ.out; omega
  have HM := Lib.hid hm2
  have HL := Lib.hid hls
  have H2 := Lib.hid hr2
  have HH2 := Lib.hid (HH.out.below hb2 (Nat.le_trans hB hb1.size))
  clear hm2 hls hr2 hown2 HH HR
  go_wp2_with fail
  go_loop [5, 7] (fun v i => ∃ j : Nat, j ≤ m2 ∧ i = .int .i64 j ∧ v = .int .u64 (mxs 0#64 (ls.take j)).toNat) (fun _ i => m2 - (intOf i).toNat)
  case atStart => exact ⟨0, by omega, rfl, rfl⟩
  case round =>
    obtain ⟨j, hj, rfl, rfl⟩ := hrel
    by_cases hlt : j < m2
    · have hjl : j < ls.length := by rw [← wI_length, HM.out]; exact hlt
      obtain ⟨b, off, rfl, _, hcell⟩ := H2.out.at_ (j := j) (by rw [HM.out]; exact hlt)
      rw [wI_get hjl] at hcell
      have HS := Lib.hid (mxs_take_succ 0#64 hjl)
      generalize ls[j] = x at hcell HS
      go_wp2_with (go_at_call 27; refine (rmix_any _ _ (mxs 0#64 (ls.take j)) x _ rfl rfl).mono ?_; rintro e w' ⟨rfl, rfl⟩)
      go_round
      case rel => exact ⟨j + 1, by omega, by go_num, by rw [HS.out]⟩
      case measure => simp [intOf]; omega
    · have hend : ls.take j = ls := List.take_of_length_le (by rw [← wI_length, HM.out]; omega)
      rw [hend]
      have e1 : ((s.size : Nat) : Int) = ((BitVec.ofNat 64 s.size).toNat : Int) := ofNat_small _ (by omega)
      have e2 : ((n : Nat) : Int) = ((BitVec.ofNat 64 n).toNat : Int) := ofNat_small _ (by omega)
      have E1 := Lib.hid e1
      have E2 := Lib.hid e2
      clear e1 e2 hend
      go_wp2_with fail
      refine (rmix_any _ _ (mxs 0#64 ls) (BitVec.ofNat 64 s.size) _ rfl E1.out).mono ?_
      rintro e w' ⟨rfl, rfl⟩
      go_wp2_with fail
      refine (rmix_any _ _ (mx (mxs 0#64 ls) (BitVec.ofNat 64 s.size)) (BitVec.ofNat 64 n) _ rfl E2.out).mono ?_
      rintro e w' ⟨rfl, rfl⟩
      obtain ⟨hd, hhd⟩ : ∃ hd, mx (mx (mxs 0#64 ls) (BitVec.ofNat 64 s.size)) (BitVec.ofNat 64 n) = hd := ⟨_, rfl⟩
      rw [hhd]
      have HD := Lib.hid (show headS s.data.toList ws.length = hd by rw [← hhd, ← HN.out, ← HL.out, headS]; simp)
      clear hhd
      go_wp2_with fail
      go_loop [5, 8] (fun v i => ∃ k : Nat, k ≤ n ∧ i = .int .i64 k ∧ v = .int .u64 (mxi hd (ws.take k)).toNat) (fun _ i => n - (intOf i).toNat)
      case atStart => exact ⟨0, by omega, rfl, rfl⟩
      case round =>
        obtain ⟨k, hk, rfl, rfl⟩ := hrel
        by_cases hlt2 : k < n
        · have hkl : k < ws.length := by rw [← HN.out]; exact hlt2
          obtain ⟨b, off, rfl, _, hcell⟩ := HH2.out.at_ (j := k) hkl
          have HS := Lib.hid (mxi_take_succ hd hkl)
          generalize ws.getD k 0 = x at hcell HS
          have EX := Lib.hid (u64_ofInt x)
          go_wp2_with (go_at_call 27; refine (rmix_any _ _ (mxi hd (ws.take k)) (BitVec.ofInt 64 x) _ rfl EX.out).mono ?_; rintro e w' ⟨rfl, rfl⟩)
          go_round
          case rel => exact ⟨k + 1, by omega, by go_num, by rw [HS.out]⟩
          case measure => simp [intOf]; omega
        · have hend : ws.take k = ws := List.take_of_length_le (by rw [← HN.out]; omega)
          rw [hend]
          clear hend
          go_wp2_with (go_at_call 27; refine (rmix_any _ _ (mxi hd ws) 0#64 _ rfl rfl).mono ?_; rintro e w' ⟨rfl, rfl⟩)
          go_ret
          refine ⟨?_, hb12⟩
          rw [sumS, HD.out]
          rfl
theorem two_new (k : IntKind) (w : World) (t : TypeId) (xs : List Int) : Rd k (w.alloc (.cells (vs k xs).toArray t)) (w.heap.size + 1) (.slice (some ⟨w.heap.size, 0, none⟩) xs.length xs.length) xs := by
  refine .inr ⟨w.heap.size, 0, xs.length, rfl, Nat.le_refl _, Nat.lt_succ_self _, fun j v hj => ?_⟩
  have := heap_alloc_new w (.cells (vs k xs).toArray t)
  have hc := cell_of_row _ w.heap.size (0 + j) (vs k xs).toArray t (0, 0) this
  rw [hc, Nat.zero_add]
  simpa using vs_get hj

theorem toInt_map_snoc (l : List (BitVec 64)) {j : Nat} (h : j < l.length) : (l.take (j + 1)).map (·.toInt) = (l.take j).map (·.toInt) ++ [(l[j]).toInt] := by
  rw [List.take_add_one, List.getElem?_eq_getElem h, List.map_append]; rfl
theorem wrap_toInt (x : BitVec 64) : wrap64 (x.toNat : Int) = x.toInt := by rw [← i64_wrap64, i64_toInt]

theorem refpair_any (x y : BitVec 64) (w : World) :
    Calls Try.prog 20 #[.int .u64 x.toNat, .int .u64 y.toNat] w fun e w' => e = .returned (.int .u64 (pairS x y).toNat) ∧ Below w.heap.size w w' := by
  have hx := Lib.hid (wrap_toInt x)
  have hy := Lib.hid (wrap_toInt y)
  go_enter Try.func20, Try.ntmps20
  go_wp2_with fail
  rw [hx.out, hy.out]
  refine (refsum_any ⟨#[112, 97, 105, 114]⟩ [x.toInt, y.toInt] _ 2 2 (w.heap.size + 1) _ (by decide) rfl (by simp) (two_new .i64 w 3 [x.toInt, y.toInt]) (by simp)).mono ?_
  rintro e w' ⟨rfl, hb⟩
  go_wp2
  go_ret
  exact ⟨rfl, ((Below.refl _ w).alloc (Nat.le_refl _) _).trans (hb.mono (by simp))⟩

set_option maxHeartbeats 800000 in
theorem refbytes_any (s : ByteArray) (l : List UInt8) (a : Option Addr) (n c B : Nat) (w : World) (hs : s.size ≤ 1000) (hn : n = l.length) (hl : l.length ≤ 1000) (h : Rd .u8 w B (.slice a n c) (bI l)) (hB : B ≤ w.heap.size) :
    Calls Try.prog 18 #[.string s, .slice a n c] w fun e w' => e = .returned (.int .u64 (bytesS s.data.toList l).toNat) ∧ Below w.heap.size w w' := by
  obtain ⟨i0, hi0, hz0, hz1, hz2⟩ := info_parts int_info
  have hn1 : n ≤ 1000 := by omega
  have HN := Lib.hid hn
  have HLL := Lib.hid hl
  clear hn hl
  go_enter Try.func18, Try.ntmps18
  go_wp2_with fail
  refine (words_any l _ n c B w HN.out HLL.out h hB).mono ?_
  rintro e W2 ⟨a2, c2, rfl, hown2, hb2⟩
  have hr2 := Rd.own hown2
  obtain ⟨ls, hls⟩ : ∃ ls, wordsL l = ls := ⟨_, rfl⟩
  rw [hls] at hr2 ⊢
  obtain ⟨m2, hm2⟩ : ∃ m, (wI ls).length = m := ⟨_, rfl⟩
  rw [hm2] at hr2 ⊢
  have hmm : m2 ≤ 200 := by rw [← hm2, wI_length, ← hls, wordsL_length]; have := HLL.out; omega
  have HM := Lib.hid (show ls.length = m2 by rw [← hm2, wI_length])
  have HL := Lib.hid hls
  have H2 := Lib.hid hr2
  clear hm2 hls hr2 hown2 h
  go_wp2_with fail
  go_loopw [6, 7] (fun v i wr => ∃ j : Nat, j ≤ m2 ∧ i = .int .i64 j ∧ wr.ownsRow W2.heap.size 3 1 v j (vs .i64 ((ls.take j).map (·.toInt))) ∧ Below W2.heap.size W2 wr) (fun _ i _ => m2 - (intOf i).toNat)
  case atStart => exact ⟨0, by omega, rfl, World.ownsRow_nil _ _ _ _, Below.refl _ _⟩
  case round =>
    obtain ⟨j, hj, rfl, hown, hb⟩ := hrel
    by_cases hlt : j < m2
    · have hjl : j < ls.length := by rw [HM.out]; exact hlt
      obtain ⟨b, off, rfl, _, hcell⟩ := (H2.out.below hb (Nat.le_refl _)).at_ (j := j) (by rw [wI_length]; exact hjl)
      rw [wI_get hjl] at hcell
      have HS := Lib.hid (toInt_map_snoc ls hjl)
      generalize ls[j] = x at hcell HS
      have HX := Lib.hid (wrap_toInt x)
      have HO1 := Lib.hid (vs_one .i64 [x.toInt])
      have HO2 := Lib.hid (show j + 1 ≤ maxLen by unfold maxLen; omega)
      have HO3 := Lib.hid (show (j + 1) * 8 ≤ 140737488355328 by omega)
      have HO4 := Lib.hid (show W2.heap.size ≤ (wr.alloc (.cells #[.int .i64 x.toInt] 3)).heap.size by have := hb.size; simp; omega)
      have hxt := wrap_toInt x
      go_wp2_with (at_builtin; refine wpList_append_own _ rfl _ _ 22 rfl W2.heap.size 3 i0 (.int .i64 0) 1 8 Try.underlying22 hi0 hz0 hz1 hz2 rfl (by decide) _ _ _ rfl (hown.alloc _) ⟨wr.heap.size, 0, none⟩ 1 1 [.int .i64 x.toInt] rfl rfl (cell_one_new _ _ _) HO1.out HO2.out HO3.out HO4.out ?_; intro v' w1 hown' hgrow _)
      have hb' : Below W2.heap.size W2 w1 := (hb.alloc hb.size _).grown hgrow (by have := hb.size; simp; omega) (own_block_ge hown)
      clear hgrow hown hxt
      go_wp2
      go_roundw
      case rel => exact ⟨j + 1, by omega, by go_num, by rw [HS.out, vs_snoc]; exact hown', hb'⟩
      case measure => simp [intOf]; omega
    · have hend : ls.take j = ls := List.take_of_length_le (by rw [HM.out]; omega)
      rw [hend] at hown
      clear hend
      have HO1 := Lib.hid (vs_one .i64 [(n : Int)])
      have HO2 := Lib.hid (show j + 1 ≤ maxLen by unfold maxLen; omega)
      have HO3 := Lib.hid (show (j + 1) * 8 ≤ 140737488355328 by omega)
      have HO4 := Lib.hid (show W2.heap.size ≤ (wr.alloc (.cells #[.int .i64 (n : Int)] 3)).heap.size by have := hb.size; simp; omega)
      go_wp2_with (at_builtin; refine wpList_append_own _ rfl _ _ 22 rfl W2.heap.size 3 i0 (.int .i64 0) 1 8 Try.underlying22 hi0 hz0 hz1 hz2 rfl (by decide) _ _ _ rfl (hown.alloc _) ⟨wr.heap.size, 0, none⟩ 1 1 [.int .i64 (n : Int)] rfl rfl (cell_one_new _ _ _) HO1.out HO2.out HO3.out HO4.out ?_; intro v' w1 hown' hgrow _)
      have hb' : Below W2.heap.size W2 w1 := (hb.alloc hb.size _).grown hgrow (by have := hb.size; simp; omega) (own_block_ge hown)
      obtain ⟨a', c', rfl⟩ := own_form hown'
      have hr' : Rd .i64 w1 w1.heap.size (.slice a' (j + 1) c') (argsB l) := by
        refine Rd.own (n := j + 1) (e := 3) (base := W2.heap.size) ?_
        rw [argsB, HL.out, ← HN.out, vs_snoc]
        exact hown'
      have hlen : j + 1 = (argsB l).length := by
        rw [argsB, HL.out]
        have := HM.out
        simp
        omega
      have HE := Lib.hid hlen
      have HR' := Lib.hid hr'
      clear hgrow hown hown' hr' hlen
      go_wp2_with fail
      refine (refsum_any s (argsB l) _ (j + 1) c' w1.heap.size w1 hs HE.out (by rw [← HE.out]; omega) HR'.out (Nat.le_refl _)).mono ?_
      rintro e w' ⟨rfl, hb3⟩
      go_wp2
      go_ret
      exact ⟨rfl, (hb2.trans (hb'.mono hb2.size)).trans (hb3.mono (Nat.le_trans hb2.size hb'.size))⟩
end Go.Proofs.Ytkcokddhmfomgaa
