/- The walk of HashGroups: the law returns true for every input; what lay lies as it lay. -/
import Derived.Test.YtkcokddhmfomgaaHLaw3
namespace Go.Proofs.Ytkcokddhmfomgaa
open Go.RowKit

theorem leN_pad (l : List UInt8) : leN ((l ++ [0]).take 8) = leN (l.take 8) := by
  by_cases h : 8 ≤ l.length
  · rw [List.take_append_of_le_length h]
  · rw [List.take_of_length_le (by simp; omega), List.take_of_length_le (l := l) (by omega), leN_snoc]
    simp
theorem wordsL_pad (l : List UInt8) (h : l.length % 8 ≠ 0) : wordsL (l ++ [0]) = wordsL l := by
  apply List.ext_getElem
  · rw [wordsL_length, wordsL_length, List.length_append]
    simp only [List.length_singleton]
    omega
  · intro k h1 h2
    rw [wordsL_length] at h2
    simp only [wordsL, List.getElem_map, List.getElem_range]
    rw [List.drop_append_of_le_length (by omega), wordL, wordL, leN_pad]
theorem bytes_pad (s l : List UInt8) (hl : l.length ≤ 1000) (h : l.length % 8 ≠ 0) : bytesS s (l ++ [0]) ≠ bytesS s l := by
  intro e
  unfold bytesS sumS argsB at e
  rw [wordsL_pad l h] at e
  have e1 := mx_state e
  have hlen : ((wordsL l).map (·.toInt) ++ [((l ++ [0]).length : Int)]).length = ((wordsL l).map (·.toInt) ++ [(l.length : Int)]).length := by simp
  rw [hlen, mxi_snoc, mxi_snoc] at e1
  have e2 := mx_word e1
  have e3 := congrArg BitVec.toNat e2
  rw [List.length_append, BitVec.toNat_ofInt, BitVec.toNat_ofInt] at e3
  simp only [List.length_singleton, Nat.reducePow] at e3
  omega

set_option maxHeartbeats 1600000 in
theorem hashGroups_walk (a0 : ByteArray) (a1 : Option Addr) (len1 cap1 : Nat) (xs : List Int) (w : World) (w0 : a0.size ≤ maxLen) (h1 : Src .u8 w (.slice a1 len1 cap1) xs) (h2 : xs.length ≤ maxLen) (h3 : ∀ n ∈ xs, (Lit.int .u8 n).wf = true) :
    Calls Try.prog 8 #[.string a0, .slice a1 len1 cap1] w fun e w' => e = .returned (.bool true) ∧ Below w.heap.size w w' := by
  obtain ⟨i0, hi0, hz0, hz1, hz2⟩ := info_parts int_info
  obtain ⟨i1, hi1, hy0, hy1, hy2⟩ := info_parts byte_info
  obtain ⟨bs, hbs⟩ := bytes_of_wf (xs.take 60) (fun n hn => h3 n (List.mem_of_mem_take hn))
  have hbl : bs.length ≤ 60 := by rw [← bI_length, hbs, List.length_take]; omega
  clear h3
  go_enter Try.func8, Try.ntmps8
  go_wp2_with fail
  refine (short_any a0 20 w w0 (by decide)).mono ?_
  rintro e w' ⟨rfl, rfl⟩
  have hs := Nat.le_trans (short_size a0 20) (show 20 ≤ 1000 by decide)
  generalize a0.extract 0 20 = s at hs
  go_wp2_with fail
  refine (few_any _ xs 60 w h1 h2 (by decide)).mono ?_
  rintro e w1 ⟨a2, c2, rfl, hown, hb1⟩
  rw [← hbs, bI_length] at hown ⊢
  have hr := Lib.hid (Rd.own hown)
  obtain ⟨n, hn⟩ : ∃ n, bs.length = n := ⟨_, rfl⟩
  rw [hn] at hr hbl ⊢
  have HN := Lib.hid hn
  have hn1 := Nat.le_trans hbl (show 60 ≤ 1000 by decide)
  clear hn hbs hown h1 h2
  go_wp2_with fail
  refine (words_any bs a2 n c2 w1.heap.size w1 HN.out.symm (by rw [HN.out]; exact hn1) hr.out (Nat.le_refl _)).mono ?_
  rintro e W2 ⟨a3, c3, rfl, hown2, hb2⟩
  have hr2 := Rd.own hown2
  obtain ⟨ls, hls⟩ : ∃ ls, wordsL bs = ls := ⟨_, rfl⟩
  rw [hls] at hr2 ⊢
  obtain ⟨m2, hm2⟩ : ∃ m, (wI ls).length = m := ⟨_, rfl⟩
  rw [hm2] at hr2 ⊢
  have hmm : m2 ≤ 200 := by rw [← hm2, wI_length, ← hls, wordsL_length, HN.out]; omega
  have HM := Lib.hid (show ls.length = m2 by rw [← hm2, wI_length])
  have HL := Lib.hid hls
  have H2 := Lib.hid hr2
  have B2 : Below w.heap.size w W2 := hb1.trans (hb2.mono hb1.size)
  have R2 := Lib.hid (hr.out.below hb2 (Nat.le_refl _))
  have z2 := hb2.size
  clear hm2 hls hr2 hown2 hr hb1 hb2
  go_wp2_with fail
  go_loopw [8, 9] (fun v i wr => ∃ j : Nat, j ≤ m2 ∧ i = .int .i64 j ∧ wr.ownsRow W2.heap.size 3 1 v j (vs .i64 ((ls.take j).map (·.toInt))) ∧ Below W2.heap.size W2 wr) (fun _ i _ => m2 - (intOf i).toNat)
  case atStart => exact ⟨0, by omega, rfl, World.ownsRow_nil _ _ _ _, Below.refl _ _⟩
  case round =>
    obtain ⟨j, hj, rfl, hown, hb⟩ := hrel
    by_cases hlt : j < m2
    · have hjl : j < ls.length := by rw [HM.out]; exact hlt
      obtain ⟨b, off, rfl, _, hcell⟩ := (H2.out.below hb (Nat.le_refl _)).at_ (j := j) (by rw [wI_length]; exact hjl)
      rw [wI_get hjl] at hcell
      have HS := Lib.hid (toInt_map_snoc ls hjl)
      generalize ls[j] = x at hcell HS
      have HO1 := Lib.hid (vs_one .i64 [x.toInt])
      have HO2 := Lib.hid (show j + 1 ≤ maxLen by unfold maxLen; omega)
      have HO3 := Lib.hid (show (j + 1) * 8 ≤ 140737488355328 by omega)
      have HO4 := Lib.hid (show W2.heap.size ≤ (wr.alloc (.cells #[.int .i64 x.toInt] 3)).heap.size by have := hb.size; simp; omega)
      have hxt := wrap_toInt x
      go_wp2_with (at_builtin; refine wpList_append_own _ rfl _ _ 22 rfl W2.heap.size 3 i0 (.int .i64 0) 1 8 Try.underlying22 hi0 hz0 hz1 hz2 rfl (by decide) _ _ _ rfl (hown.alloc _) ⟨wr.heap.size, 0, none⟩ 1 1 [.int .i64 x.toInt] rfl rfl (cell_one_new _ _ _) HO1.out HO2.out HO3.out HO4.out ?_; intro v' w1' hown' hgrow _)
      have hb' : Below W2.heap.size W2 w1' := (hb.alloc hb.size _).grown hgrow (by have := hb.size; simp; omega) (own_block_ge hown)
      clear hgrow hown hxt
      go_wp2
      go_roundw
      case rel => exact ⟨j + 1, by omega, by go_num, by rw [HS.out, vs_snoc]; exact hown', hb'⟩
      case measure => simp [intOf]; omega
    · have hend : ls.take j = ls := List.take_of_length_le (by rw [HM.out]; omega)
      rw [hend] at hown
      clear hend
      have hjm : j = m2 := by omega
      have HO1 := Lib.hid (vs_one .i64 [(n : Int)])
      have HO2 := Lib.hid (show j + 1 ≤ maxLen by unfold maxLen; omega)
      have HO3 := Lib.hid (show (j + 1) * 8 ≤ 140737488355328 by omega)
      have Rr := Lib.hid (R2.out.below hb z2)
      have Br : Below w.heap.size w wr := B2.trans (hb.mono B2.size)
      have zr : w1.heap.size ≤ wr.heap.size := Nat.le_trans z2 hb.size
      have HJ := Lib.hid hjm
      clear hjm R2
      go_wp2_with fail
      refine (bytes_any s bs a2 n c2 w1.heap.size wr hs HN.out.symm hn1 Rr.out zr).mono ?_
      rintro e w4 ⟨rfl, hb4⟩
      obtain ⟨p, hp⟩ : ∃ p, ((bytesS s.data.toList bs).toNat : Int) = p := ⟨_, rfl⟩
      rw [hp]
      have P := Lib.hid hp
      clear hp
      have hown4 := own_below hown hb4
      have b4 : Below W2.heap.size W2 w4 := hb.trans (hb4.mono hb.size)
      have R4 := Lib.hid (Rr.out.below hb4 zr)
      have HO4 := Lib.hid (show W2.heap.size ≤ (w4.alloc (.cells #[.int .i64 (n : Int)] 3)).heap.size by have := b4.size; simp; omega)
      clear hown Rr
      go_wp2_with (at_builtin; refine wpList_append_own _ rfl _ _ 22 rfl W2.heap.size 3 i0 (.int .i64 0) 1 8 Try.underlying22 hi0 hz0 hz1 hz2 rfl (by decide) _ _ _ rfl (hown4.alloc _) ⟨w4.heap.size, 0, none⟩ 1 1 [.int .i64 (n : Int)] rfl rfl (cell_one_new _ _ _) HO1.out HO2.out HO3.out HO4.out ?_; intro v' w5 hown' hgrow _)
      have b5 : Below W2.heap.size W2 w5 := (b4.alloc b4.size _).grown hgrow (by have := b4.size; simp; omega) (own_block_ge hown4)
      obtain ⟨a', c', rfl⟩ := own_form hown'
      have hr' : Rd .i64 w5 w5.heap.size (.slice a' (j + 1) c') (argsB bs) := by
        refine Rd.own (n := j + 1) (e := 3) (base := W2.heap.size) ?_
        rw [argsB, HL.out, HN.out, vs_snoc]
        exact hown'
      have hlen : j + 1 = (argsB bs).length := by
        rw [argsB, HL.out, HJ.out, ← HM.out]
        simp
      have hg5 : w4.heap.size ≤ w5.heap.size := by have := hgrow.size; simp at this; omega
      have R5 : Rd .u8 w5 w1.heap.size (.slice a2 n c2) (bI bs) := by
        refine R4.out.below (B' := W2.heap.size) (((Below.refl _ w4).alloc b4.size _).grown hgrow (by have := b4.size; simp; omega) (own_block_ge hown4)) z2
      have HR5 := Lib.hid R5
      have B5 : Below w.heap.size w w5 := B2.trans (b5.mono B2.size)
      have z5 : w1.heap.size ≤ w5.heap.size := Nat.le_trans z2 b5.size
      have HE := Lib.hid hlen
      have HR' := Lib.hid hr'
      clear hgrow hown4 hown' hr' hlen R5 R4 b4 b5 hb hb4 B2 Br
      go_wp2_with fail
      refine (sum_any s (argsB bs) _ (j + 1) c' w5.heap.size w5 hs HE.out (by omega) HR'.out (Nat.le_refl _)).mono ?_
      rintro e w6 ⟨rfl, hb6⟩
      rw [show ((sumS s.data.toList (argsB bs)).toNat : Int) = p from P.out]
      have R6 := Lib.hid (HR5.out.below hb6 z5)
      have B6 : Below w.heap.size w w6 := B5.trans (hb6.mono B5.size)
      have z6 : w1.heap.size ≤ w6.heap.size := Nat.le_trans z5 hb6.size
      clear HR5 HR' B5 z5 hb6
      have hpp : (p != p) = false := by simp
      go_wp2_with fail
      refine (few_any _ (bI bs) 60 w6 (by have := R6.out.src; exact this) (by rw [bI_length, HN.out]; unfold maxLen; omega) (by decide)).mono ?_
      rintro e w7 ⟨a7, c7, rfl, hown7, hb7⟩
      have hfull : (bI bs).take 60 = bI bs := List.take_of_length_le (by rw [bI_length, HN.out]; exact hbl)
      rw [hfull, bI_length, HN.out] at hown7 ⊢
      have R7 := Lib.hid (R6.out.below hb7 z6)
      have B7 : Below w.heap.size w w7 := B6.trans (hb7.mono B6.size)
      have z7 : w1.heap.size ≤ w7.heap.size := Nat.le_trans z6 hb7.size
      have y7 : w6.heap.size ≤ w7.heap.size := hb7.size
      have HO5 := Lib.hid (vs_one .u8 [(0 : Int)])
      have HO6 := Lib.hid (show n + 1 ≤ maxLen by unfold maxLen; omega)
      have HO7 := Lib.hid (show (n + 1) * 1 ≤ 140737488355328 by omega)
      have HO8 := Lib.hid (show w6.heap.size ≤ (w7.alloc (.cells #[.int .u8 0] 5)).heap.size by simp; omega)
      have z6' := z6
      have B5' := B6
      clear hfull R6 B6 z6 hb7 hpp
      by_cases h8 : (n : Int) % 8 = 0
      · go_wp2_with (at_builtin; refine wpList_append_own _ rfl _ _ 30 rfl w6.heap.size 5 i1 (.int .u8 0) 1 1 Try.underlying30 hi1 hy0 hy1 hy2 rfl (by decide) _ _ _ rfl (hown7.alloc _) ⟨w7.heap.size, 0, none⟩ 1 1 [.int .u8 0] rfl rfl (cell_one_new _ _ _) HO5.out HO6.out HO7.out HO8.out ?_; intro v8 w8 hown8 hgrow8 _)
        have B8 : Below w.heap.size w w8 := (B7.alloc B7.size _).grown hgrow8 (by have := B7.size; simp; omega) (fun g hg => by have := own_block_ge hown7 g hg; have := B7.size; have := B5'.size; omega)
        clear hgrow8 hown8 hown7
        refine (lives_any w8).mono ?_
        rintro e w9 ⟨rfl, hb9⟩
        have B9 : Below w.heap.size w w9 := B8.trans (hb9.mono B8.size)
        go_wp2
        go_ret
        exact ⟨rfl, B9⟩
      · go_wp2_with (at_builtin; refine wpList_append_own _ rfl _ _ 30 rfl w6.heap.size 5 i1 (.int .u8 0) 1 1 Try.underlying30 hi1 hy0 hy1 hy2 rfl (by decide) _ _ _ rfl (hown7.alloc _) ⟨w7.heap.size, 0, none⟩ 1 1 [.int .u8 0] rfl rfl (cell_one_new _ _ _) HO5.out HO6.out HO7.out HO8.out ?_; intro v8 w8 hown8 hgrow8 _)
        have B8 : Below w.heap.size w w8 := (B7.alloc B7.size _).grown hgrow8 (by have := B7.size; simp; omega) (fun g hg => by have := own_block_ge hown7 g hg; have := B7.size; have := B5'.size; omega)
        have R8 : Rd .u8 w8 w1.heap.size (.slice a2 n c2) (bI bs) :=
          R7.out.below (B' := w6.heap.size) (((Below.refl _ w7).alloc (by omega) _).grown hgrow8 (by simp; omega) (own_block_ge hown7)) z6'
        have hg8 : w7.heap.size ≤ w8.heap.size := by have := hgrow8.size; simp at this; omega
        obtain ⟨a8, c8, rfl⟩ := own_form hown8
        have L8 : Rd .u8 w8 w8.heap.size (.slice a8 (n + 1) c8) (bI (bs ++ [0])) := by
          refine Rd.own (n := n + 1) (e := 5) (base := w6.heap.size) ?_
          rw [show bI (bs ++ [0]) = bI bs ++ [(0 : Int)] from by simp [bI], vs_snoc]
          exact hown8
        have HR8 := Lib.hid R8
        have HL8 := Lib.hid L8
        have z8 : w1.heap.size ≤ w8.heap.size := Nat.le_trans z7 hg8
        have HPAD := Lib.hid (toI_ne (bytes_pad s.data.toList bs (by rw [HN.out]; exact hn1) (by rw [HN.out]; omega)))
        have HLL := Lib.hid (show n + 1 = (bs ++ [0]).length by rw [List.length_append, HN.out]; rfl)
        clear hgrow8 hown8 hown7 R8 L8 R7
        refine (bytes_any s (bs ++ [0]) a8 (n + 1) c8 w8.heap.size w8 hs HLL.out (by omega) HL8.out (Nat.le_refl _)).mono ?_
        rintro e w9 ⟨rfl, hb9⟩
        obtain ⟨q, hq⟩ : ∃ q, toI (bytesS s.data.toList (bs ++ [0])) = q := ⟨_, rfl⟩
        have hpad := HPAD.out
        rw [show toI (bytesS s.data.toList bs) = p from P.out, hq] at hpad
        unfold toI at hq
        rw [hq]
        have R9 := Lib.hid (HR8.out.below hb9 z8)
        have B9 : Below w.heap.size w w9 := B8.trans (hb9.mono B8.size)
        have z9 : w1.heap.size ≤ w9.heap.size := Nat.le_trans z8 hb9.size
        clear hq hb9 B8 HPAD HR8 HL8
        go_wp2_with fail
        refine (bytes_any s bs a2 n c2 w1.heap.size w9 hs HN.out.symm hn1 R9.out z9).mono ?_
        rintro e w10 ⟨rfl, hb10⟩
        rw [P.out]
        have B10 : Below w.heap.size w w10 := B9.trans (hb10.mono B9.size)
        clear P R9 hb10 B9
        go_wp2_with fail
        refine (lives_any w10).mono ?_
        rintro e w11 ⟨rfl, hb11⟩
        have B11 : Below w.heap.size w w11 := B10.trans (hb11.mono B10.size)
        go_wp2
        go_ret
        exact ⟨rfl, B11⟩
end Go.Proofs.Ytkcokddhmfomgaa
