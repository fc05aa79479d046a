/- The walk of HashOneGroup: the law returns true for every input; what lay lies as it lay. -/
import Derived.Test.YtkcokddhmfomgaaHLaw7
namespace Go.Proofs.Ytkcokddhmfomgaa
open Go.RowKit

set_option maxHeartbeats 4000000 in
theorem hashOneGroup_walk (a0 : ByteArray) (a1 : Option Addr) (len1 cap1 : Nat) (xs : List Int) (at0 v1 v2 : Int) (w : World) (w0 : a0.size ≤ maxLen) (h1 : Src .u8 w (.slice a1 len1 cap1) xs) (h2 : xs.length ≤ maxLen) (h3 : ∀ n ∈ xs, (Lit.int .u8 n).wf = true) (wat : (Lit.int .i64 at0).wf = true) (wv1 : (Lit.int .u8 v1).wf = true) (wv2 : (Lit.int .u8 v2).wf = true) :
    Calls Try.prog 6 #[.string a0, .slice a1 len1 cap1, .int .i64 at0, .int .u8 v1, .int .u8 v2] w fun e w' => e = .returned (.bool true) ∧ Below w.heap.size w w' := by
  obtain ⟨i0, hi0, hz0, hz1, hz2⟩ := info_parts byte_info
  obtain ⟨o1, rfl⟩ := byte_of_wf wv1
  obtain ⟨o2, rfl⟩ := byte_of_wf wv2
  obtain ⟨bs, hbs⟩ := bytes_of_wf (xs.take 39) (fun n hn => h3 n (List.mem_of_mem_take hn))
  have hbl : bs.length ≤ 39 := by rw [← bI_length, hbs, List.length_take]; omega
  obtain ⟨m, hm⟩ : ∃ m, bs.length = m := ⟨_, rfl⟩
  rw [hm] at hbl
  have HM := Lib.hid hm
  have HBS := Lib.hid hbs
  have HAT := Lib.hid wat
  clear hbs hm h3 wat wv1 wv2
  go_enter Try.func6, Try.ntmps6
  go_wp2_with fail
  refine (short_any a0 20 w w0 (by decide)).mono ?_
  rintro e w' ⟨rfl, rfl⟩
  have hs := Nat.le_trans (short_size a0 20) (show 20 ≤ 1000 by decide)
  generalize a0.extract 0 20 = s at hs
  go_wp2_with fail
  refine (few_any _ xs 39 w h1 h2 (by decide)).mono ?_
  rintro e w1 ⟨a2, c2, rfl, hown, hb1⟩
  rw [← HBS.out, bI_length, HM.out] at hown ⊢
  have HO1 := Lib.hid (vs_one .u8 [(65 : Int)])
  have HO2 := Lib.hid (show m + 1 ≤ maxLen by unfold maxLen; omega)
  have HO3 := Lib.hid (show (m + 1) * 1 ≤ 140737488355328 by omega)
  have HO4 := Lib.hid (show w.heap.size ≤ (w1.alloc (.cells #[.int .u8 65] 5)).heap.size by have := hb1.size; simp; omega)
  go_wp2_with (at_builtin; refine wpList_append_own _ rfl _ _ 30 rfl w.heap.size 5 i0 (.int .u8 0) 1 1 Try.underlying30 hi0 hz0 hz1 hz2 rfl (by decide) _ _ _ rfl (hown.alloc _) ⟨w1.heap.size, 0, none⟩ 1 1 [.int .u8 65] rfl rfl (cell_one_new _ _ _) HO1.out HO2.out HO3.out HO4.out ?_; intro v' w2 hown' hgrow _)
  have b2 : Below w.heap.size w w2 := (hb1.alloc hb1.size _).grown hgrow (by have := hb1.size; simp; omega) (own_block_ge hown)
  obtain ⟨g, c3, rfl⟩ := ownsRow_succ hown'
  obtain ⟨X, hX⟩ : ∃ X, bs ++ [65] = X := ⟨_, rfl⟩
  have hXo : w2.ownsRow w.heap.size 5 1 (.slice (some ⟨g, 0, none⟩) (m + 1) c3) (m + 1) (vs .u8 (bI X)) := by
    rw [← hX, show bI (bs ++ [65]) = bI bs ++ [(65 : Int)] from by simp [bI], vs_snoc]; exact hown'
  have HXL := Lib.hid (show X.length = m + 1 by rw [← hX, List.length_append, HM.out]; rfl)
  obtain ⟨n, hn⟩ : ∃ n, m + 1 = n := ⟨_, rfl⟩
  rw [hn] at hXo HXL ⊢
  have hn1 : 1 ≤ n := by omega
  have hn2 : n ≤ 40 := by omega
  have RA := Lib.hid (Rd.own hXo)
  have hgl := own_lt hXo
  clear hn hX hown' hgrow hown hb1 HO1 HO2 HO3 HO4 HM hbl h1 h2
  go_wp2_with fail
  refine (few_any _ (bI X) 40 w2 RA.out.src (by rw [bI_length, HXL.out]; unfold maxLen; omega) (by decide)).mono ?_
  rintro e w3 ⟨a4, c4, rfl, hown4, hb3⟩
  rw [List.take_of_length_le (by rw [bI_length, HXL.out]; exact hn2), bI_length, HXL.out] at hown4 ⊢
  obtain ⟨n', hn'⟩ : ∃ n', n = n' + 1 := ⟨n - 1, by omega⟩
  obtain ⟨g4, c4', e4⟩ := ownsRow_succ (k := n') (by rw [← hn']; exact hown4)
  rw [← hn'] at e4
  injection e4 with e41 e42 e43
  subst e41
  subst e43
  have hXo3 := own_below hXo hb3
  have b3 : Below w.heap.size w w3 := b2.trans (hb3.mono b2.size)
  have z3 : w2.heap.size ≤ w3.heap.size := hb3.size
  have z2 : w.heap.size ≤ w2.heap.size := b2.size
  clear hn' hXo RA b2 hb3
  go_wp2_with fail
  refine (around_any at0 n w3 hn1 (by omega) HAT.out).mono ?_
  rintro e w' ⟨rfl, rfl⟩
  have hk := aroundI_lt at0 hn1
  generalize aroundI at0 n = k at hk
  have hkX : k < X.length := by rw [HXL.out]; exact hk
  obtain ⟨xk, hxk⟩ : ∃ c, X[k]? = some c := ⟨_, List.getElem?_eq_getElem hkX⟩
  have hcell1 : w3.cell? ⟨g4, k, none⟩ = some (.int .u8 (xk.toNat : Int)) := by
    rw [hown4.cellAt k (by omega)]
    exact vs_get (by rw [bI, List.getElem?_map, hxk]; rfl)
  have hfr1 := hown4.frozenAt k
  have hxor1 := xor_byte xk o1
  generalize xk ^^^ o1 = y1 at hxor1
  obtain ⟨hst, hgr⟩ := hown4.stored k (.int .u8 (y1.toNat : Int))
  have hg4 : w.heap.size ≤ g4 := by
    have := own_block_ge hown4 g4 rfl
    omega
  have hgg : g ≠ g4 := by
    have := own_block_ge hown4 g4 rfl
    omega
  obtain ⟨WW, hWW⟩ : ∃ W, w3.setCell ⟨g4, k, none⟩ (.int .u8 (y1.toNat : Int)) = W := ⟨_, rfl⟩
  have b1 : Below w.heap.size w WW := by rw [← hWW]; exact b3.setCell (p := ⟨g4, k, none⟩) hg4 _
  rw [hWW] at hst hgr
  have hx1 := hXo3.kept hgr (.inr (fun e => hgg (by simpa [Value.ownBlock] using e)))
  have hY1 : (vs .u8 (bI X)).set k (.int .u8 (y1.toNat : Int)) = vs .u8 (bI (X.set k y1)) := by rw [vs_set, bI_set]
  rw [hY1] at hst
  have HST := Lib.hid hst
  have HX1 := Lib.hid hx1
  clear hst hgr hxk hkX hx1 hY1 hXo3 hown4 b3
  by_cases hk1 : (k : Int) + 1 < (n : Int)
  · by_cases hk8 : ((k : Int) + 1) % 8 = 0
    · have hk8b : (((k : Int) + 1) % 8 != 0) = false := by rw [hk8]; rfl
      obtain ⟨YY, hYY⟩ : ∃ YY, X.set k y1 = YY := ⟨_, rfl⟩
      have HYL := Lib.hid (show X.length = YY.length by rw [← hYY, List.length_set])
      have HDIFF := Lib.hid (show ∀ i, i / 8 ≠ k / 8 → X[i]? = YY[i]? from fun i hi => by
        rw [← hYY, List.getElem?_set_ne (fun e => hi (by rw [e]))])
      have hst1 := HST.out
      rw [hYY] at hst1
      obtain ⟨WF, hWF⟩ : ∃ WF, WW = WF := ⟨_, rfl⟩
      rw [hWF] at hWW hst1 b1 HX1
      have RX := Lib.hid (Rd.own HX1.out)
      have RY := Lib.hid (Rd.own hst1)
      have bF := b1
      clear hYY hst1 b1 hWF HST HX1
      have HEQ := Lib.hid (bytesS_group s.data.toList X YY (j := k / 8) HYL.out (by rw [HXL.out]; omega) HDIFF.out)
      obtain ⟨p, hp⟩ : ∃ p, toI (bytesS s.data.toList X) = p := ⟨_, rfl⟩
      obtain ⟨q, hq⟩ : ∃ q, toI (bytesS s.data.toList YY) = q := ⟨_, rfl⟩
      obtain ⟨same, hsame⟩ : ∃ same, decide (bI X = bI YY) = same := ⟨_, rfl⟩
      have hpq := HEQ.out
      rw [hp, hq, hsame] at hpq
      have hss : (same == same) = true := by cases same <;> rfl
      unfold toI at hp hq
      have P := Lib.hid hp
      have Q := Lib.hid hq
      have SM := Lib.hid hsame
      have HYL2 := Lib.hid (show n = YY.length by rw [← HYL.out]; exact HXL.out.symm)
      clear hp hq hsame HEQ HDIFF
      go_wp2_with fail
      refine (bytes_any s X _ n c3 WF.heap.size WF hs HXL.out.symm (by omega) RX.out (Nat.le_refl _)).mono ?_
      rintro e w5 ⟨rfl, hb5⟩
      rw [P.out]
      have RX5 := Lib.hid (RX.out.below hb5 (Nat.le_refl _))
      have RY5 := Lib.hid (RY.out.below hb5 (Nat.le_refl _))
      have B5 : Below w.heap.size w w5 := bF.trans (hb5.mono bF.size)
      have z5 : WF.heap.size ≤ w5.heap.size := hb5.size
      clear P RX RY hb5 bF
      go_wp2_with fail
      refine (bytes_any s YY _ n c4 WF.heap.size w5 hs HYL2.out (by omega) RY5.out z5).mono ?_
      rintro e w6 ⟨rfl, hb6⟩
      rw [Q.out]
      have RX6 := Lib.hid (RX5.out.below hb6 z5)
      have RY6 := Lib.hid (RY5.out.below hb6 z5)
      have B6 : Below w.heap.size w w6 := B5.trans (hb6.mono B5.size)
      have z6 : WF.heap.size ≤ w6.heap.size := Nat.le_trans z5 hb6.size
      clear Q RX5 RY5 hb6 B5 z5
      go_wp2_with fail
      refine (sameBytes_any (bI X) (bI YY) _ _ n n c3 c4 WF.heap.size WF.heap.size same w6 (by rw [bI_length]; exact HXL.out.symm) (by rw [bI_length]; exact HYL2.out) (by omega) (by omega) RX6.out RY6.out z6 z6 SM.out).mono ?_
      rintro e w7 ⟨rfl, hb7⟩
      have B7 : Below w.heap.size w w7 := B6.trans (hb7.mono B6.size)
      clear RX6 RY6 hb7 B6 SM z6
      go_wp2_with fail
      refine (lives_any w7).mono ?_
      rintro e w8 ⟨rfl, hb8⟩
      have B8 : Below w.heap.size w w8 := B7.trans (hb8.mono B7.size)
      go_wp2
      go_ret
      exact ⟨rfl, B8⟩
    · have hk8b : (((k : Int) + 1) % 8 != 0) = true := by rw [bne_iff_ne]; exact hk8
      have hx1k : k + 1 < X.length := by rw [HXL.out]; omega
      obtain ⟨xk1, hxk1⟩ : ∃ c, X[k + 1]? = some c := ⟨_, List.getElem?_eq_getElem hx1k⟩
      have hcell2 : WW.cell? ⟨g4, k + 1, none⟩ = some (.int .u8 (xk1.toNat : Int)) := by
        rw [HST.out.cellAt (k + 1) (by omega)]
        exact vs_get (by rw [bI, List.getElem?_map, List.getElem?_set_ne (by omega), hxk1]; rfl)
      have hfr2 := HST.out.frozenAt (k + 1)
      have hxor2 := xor_byte xk1 o2
      generalize xk1 ^^^ o2 = y2 at hxor2
      obtain ⟨hst2, hgr2⟩ := HST.out.stored (k + 1) (.int .u8 (y2.toNat : Int))
      rw [vs_set, bI_set] at hst2
      obtain ⟨WF, hWF⟩ : ∃ WF, WW.setCell ⟨g4, k + 1, none⟩ (.int .u8 (y2.toNat : Int)) = WF := ⟨_, rfl⟩
      rw [hWF] at hst2 hgr2
      obtain ⟨YY, hYY⟩ : ∃ YY, (X.set k y1).set (k + 1) y2 = YY := ⟨_, rfl⟩
      rw [hYY] at hst2
      have HYL := Lib.hid (show X.length = YY.length by rw [← hYY, List.length_set, List.length_set])
      have HDIFF := Lib.hid (show ∀ i, i / 8 ≠ k / 8 → X[i]? = YY[i]? from fun i hi => by
        rw [← hYY, List.getElem?_set_ne (fun e => hi (by omega)), List.getElem?_set_ne (fun e => hi (by rw [e]))])
      have bF : Below w.heap.size w WF := by rw [← hWF]; exact b1.setCell (p := ⟨g4, k + 1, none⟩) hg4 _
      have RX := Lib.hid (Rd.own (HX1.out.kept hgr2 (.inr (fun e => hgg (by simpa [Value.ownBlock] using e)))))
      have RY := Lib.hid (Rd.own hst2)
      clear hst2 hgr2 HST HX1 hYY b1 hxk1 hx1k
      have HEQ := Lib.hid (bytesS_group s.data.toList X YY (j := k / 8) HYL.out (by rw [HXL.out]; omega) HDIFF.out)
      obtain ⟨p, hp⟩ : ∃ p, toI (bytesS s.data.toList X) = p := ⟨_, rfl⟩
      obtain ⟨q, hq⟩ : ∃ q, toI (bytesS s.data.toList YY) = q := ⟨_, rfl⟩
      obtain ⟨same, hsame⟩ : ∃ same, decide (bI X = bI YY) = same := ⟨_, rfl⟩
      have hpq := HEQ.out
      rw [hp, hq, hsame] at hpq
      have hss : (same == same) = true := by cases same <;> rfl
      unfold toI at hp hq
      have P := Lib.hid hp
      have Q := Lib.hid hq
      have SM := Lib.hid hsame
      have HYL2 := Lib.hid (show n = YY.length by rw [← HYL.out]; exact HXL.out.symm)
      clear hp hq hsame HEQ HDIFF
      go_wp2_with fail
      refine (bytes_any s X _ n c3 WF.heap.size WF hs HXL.out.symm (by omega) RX.out (Nat.le_refl _)).mono ?_
      rintro e w5 ⟨rfl, hb5⟩
      rw [P.out]
      have RX5 := Lib.hid (RX.out.below hb5 (Nat.le_refl _))
      have RY5 := Lib.hid (RY.out.below hb5 (Nat.le_refl _))
      have B5 : Below w.heap.size w w5 := bF.trans (hb5.mono bF.size)
      have z5 : WF.heap.size ≤ w5.heap.size := hb5.size
      clear P RX RY hb5 bF
      go_wp2_with fail
      refine (bytes_any s YY _ n c4 WF.heap.size w5 hs HYL2.out (by omega) RY5.out z5).mono ?_
      rintro e w6 ⟨rfl, hb6⟩
      rw [Q.out]
      have RX6 := Lib.hid (RX5.out.below hb6 z5)
      have RY6 := Lib.hid (RY5.out.below hb6 z5)
      have B6 : Below w.heap.size w w6 := B5.trans (hb6.mono B5.size)
      have z6 : WF.heap.size ≤ w6.heap.size := Nat.le_trans z5 hb6.size
      clear Q RX5 RY5 hb6 B5 z5
      go_wp2_with fail
      refine (sameBytes_any (bI X) (bI YY) _ _ n n c3 c4 WF.heap.size WF.heap.size same w6 (by rw [bI_length]; exact HXL.out.symm) (by rw [bI_length]; exact HYL2.out) (by omega) (by omega) RX6.out RY6.out z6 z6 SM.out).mono ?_
      rintro e w7 ⟨rfl, hb7⟩
      have B7 : Below w.heap.size w w7 := B6.trans (hb7.mono B6.size)
      clear RX6 RY6 hb7 B6 SM z6
      go_wp2_with fail
      refine (lives_any w7).mono ?_
      rintro e w8 ⟨rfl, hb8⟩
      have B8 : Below w.heap.size w w8 := B7.trans (hb8.mono B7.size)
      go_wp2
      go_ret
      exact ⟨rfl, B8⟩
  · have hk1b : decide ((k : Int) + 1 < (n : Int)) = false := by simpa using hk1
    obtain ⟨YY, hYY⟩ : ∃ YY, X.set k y1 = YY := ⟨_, rfl⟩
    have HYL := Lib.hid (show X.length = YY.length by rw [← hYY, List.length_set])
    have HDIFF := Lib.hid (show ∀ i, i / 8 ≠ k / 8 → X[i]? = YY[i]? from fun i hi => by
      rw [← hYY, List.getElem?_set_ne (fun e => hi (by rw [e]))])
    have hst1 := HST.out
    rw [hYY] at hst1
    obtain ⟨WF, hWF⟩ : ∃ WF, WW = WF := ⟨_, rfl⟩
    rw [hWF] at hWW hst1 b1 HX1
    have RX := Lib.hid (Rd.own HX1.out)
    have RY := Lib.hid (Rd.own hst1)
    have bF := b1
    clear hYY hst1 b1 hWF HST HX1
    have HEQ := Lib.hid (bytesS_group s.data.toList X YY (j := k / 8) HYL.out (by rw [HXL.out]; omega) HDIFF.out)
    obtain ⟨p, hp⟩ : ∃ p, toI (bytesS s.data.toList X) = p := ⟨_, rfl⟩
    obtain ⟨q, hq⟩ : ∃ q, toI (bytesS s.data.toList YY) = q := ⟨_, rfl⟩
    obtain ⟨same, hsame⟩ : ∃ same, decide (bI X = bI YY) = same := ⟨_, rfl⟩
    have hpq := HEQ.out
    rw [hp, hq, hsame] at hpq
    have hss : (same == same) = true := by cases same <;> rfl
    unfold toI at hp hq
    have P := Lib.hid hp
    have Q := Lib.hid hq
    have SM := Lib.hid hsame
    have HYL2 := Lib.hid (show n = YY.length by rw [← HYL.out]; exact HXL.out.symm)
    clear hp hq hsame HEQ HDIFF
    go_wp2_with fail
    refine (bytes_any s X _ n c3 WF.heap.size WF hs HXL.out.symm (by omega) RX.out (Nat.le_refl _)).mono ?_
    rintro e w5 ⟨rfl, hb5⟩
    rw [P.out]
    have RX5 := Lib.hid (RX.out.below hb5 (Nat.le_refl _))
    have RY5 := Lib.hid (RY.out.below hb5 (Nat.le_refl _))
    have B5 : Below w.heap.size w w5 := bF.trans (hb5.mono bF.size)
    have z5 : WF.heap.size ≤ w5.heap.size := hb5.size
    clear P RX RY hb5 bF
    go_wp2_with fail
    refine (bytes_any s YY _ n c4 WF.heap.size w5 hs HYL2.out (by omega) RY5.out z5).mono ?_
    rintro e w6 ⟨rfl, hb6⟩
    rw [Q.out]
    have RX6 := Lib.hid (RX5.out.below hb6 z5)
    have RY6 := Lib.hid (RY5.out.below hb6 z5)
    have B6 : Below w.heap.size w w6 := B5.trans (hb6.mono B5.size)
    have z6 : WF.heap.size ≤ w6.heap.size := Nat.le_trans z5 hb6.size
    clear Q RX5 RY5 hb6 B5 z5
    go_wp2_with fail
    refine (sameBytes_any (bI X) (bI YY) _ _ n n c3 c4 WF.heap.size WF.heap.size same w6 (by rw [bI_length]; exact HXL.out.symm) (by rw [bI_length]; exact HYL2.out) (by omega) (by omega) RX6.out RY6.out z6 z6 SM.out).mono ?_
    rintro e w7 ⟨rfl, hb7⟩
    have B7 : Below w.heap.size w w7 := B6.trans (hb7.mono B6.size)
    clear RX6 RY6 hb7 B6 SM z6
    go_wp2_with fail
    refine (lives_any w7).mono ?_
    rintro e w8 ⟨rfl, hb8⟩
    have B8 : Below w.heap.size w w8 := B7.trans (hb8.mono B7.size)
    go_wp2
    go_ret
    exact ⟨rfl, B8⟩
end Go.Proofs.Ytkcokddhmfomgaa
