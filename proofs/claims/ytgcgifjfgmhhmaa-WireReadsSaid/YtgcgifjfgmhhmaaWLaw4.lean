/- The walk of WireWrites: the law returns true for every input; what lay lies as it lay. -/
import Derived.Test.YtgcgifjfgmhhmaaWLaw3
namespace Go.Proofs.Ytgcgifjfgmhhmaa
open Go.RowKit

theorem bytes_of_wf : (zs : List Int) → (∀ n ∈ zs, (Lit.int .u8 n).wf = true) → ∃ l : List UInt8, bI l = zs
  | [], _ => ⟨[], rfl⟩
  | z :: r, h => by
    obtain ⟨l, hl⟩ := bytes_of_wf r (fun n hn => h n (List.mem_cons_of_mem _ hn))
    have hz := h z (List.mem_cons_self ..)
    have hb : 0 ≤ z ∧ z ≤ 255 := by simpa [Lit.wf, IntKind.min, IntKind.max, IntKind.signed, IntKind.bits] using hz
    refine ⟨UInt8.ofNat z.toNat :: l, ?_⟩
    rw [bI, List.map_cons, ← bI, hl]
    congr 1
    rw [UInt8.toNat_ofNat']
    omega
theorem size_val : ∀ W, (sizeOf 28).run Try.prog W = .ok 5 W := fun _ => by kernel_rfl
theorem Vs.to_ {w : World} {ok : Nat → Prop} {ys : List Y} {a : Option Addr} {n c : Nat} (h : Vs w ok (.slice a n c) ys) (j : Nat) (hj : j ≤ n) (z : Int) (hz : z = (j : Int)) :
    ∃ a', (∀ W, (Instr.slice 25 (.slice a n c) none (some (.int .i64 z)) none).run Try.prog W = .ok (.slice a' j c) W) ∧ Vs w ok (.slice a' j c) (ys.take j) := by
  have he : Try.prog.elem 25 = 28 := by simp [Program.elem, Try.underlying25]
  obtain ⟨hn, hc⟩ := h.len
  subst hz
  refine ⟨if c = 0 then a else a.map (·.add (0 * 5)), fun W => ?_, ?_, fun y hy => h.2 y (List.mem_of_mem_take hy)⟩
  · rw [run_slice_h (ht := by rw [Try.underlying25, he]) (h0 := by omega) (h2 := by omega), he, size_val W]
    simp only [Result.andThen, sliced, Int.toNat_natCast, Nat.sub_zero]
  · rcases h.1 with ⟨h1, rfl⟩ | ⟨g, c', h1, h2, h3, h4, h5⟩
    · injection h1 with h1 h2 h3
      subst h1 h2 h3
      obtain rfl : j = 0 := by omega
      exact .inl ⟨by simp, by simp⟩
    · injection h1 with h1 h6 h7
      subst h1 h7
      have hl : (ys.take j).length = j := by rw [List.length_take]; omega
      refine .inr ⟨g, c, ?_, by omega, h3, h4, fun i v hi => h5 i v ?_⟩
      · rw [hl]
        split
        · rfl
        · rw [Nat.zero_mul, Option.map_some, Go.WideShapes.add_plain, Nat.add_zero]
      · have e : cells5 ys = cells5 (ys.take j) ++ cells5 (ys.drop j) := by rw [← cells5_append, List.take_append_drop]
        rw [e, List.getElem?_append_left (List.getElem?_eq_some_iff.1 hi).1]
        exact hi
theorem src_below {k : IntKind} {w w' : World} {sv : Value} {zs : List Int} (h : Src k w sv zs) (hb : Below w.heap.size w w') : Src k w' sv zs := by
  rcases h with h | ⟨ad, c, h1, h2, h3⟩
  · exact .inl h
  · exact .inr ⟨ad, c, h1, h2, fun j v hj => (hb.cell (World.block_lt_of_cell? w _ (h3 j v hj))).trans (h3 j v hj)⟩
theorem Vs.drew {w : World} {ok : Nat → Prop} {sv : Value} {ys : List Y} (h : Vs w ok sv ys) : Vs w.drew ok sv ys := h
set_option maxHeartbeats 3200000 in
theorem wireWrites_walk (ls : List Int) (A : Option Addr) (ln c : Nat) (u : Nat) (n : Int) (bl : List UInt8) (A3 : Option Addr) (l3 c3 : Nat) (is : List Int) (A4 : Option Addr) (l4 c4 : Nat) (w : World)
    (hln : ls.length = ln) (hlm : ln ≤ maxLen) (hwf : ∀ x ∈ ls, (Lit.int .i64 x).wf = true) (hsrc : Src .i64 w (.slice A ln c) ls) (hu : u < 18446744073709551616) (hn : ok64 n)
    (h3l : (bI bl).length ≤ maxLen) (h3s : Src .u8 w (.slice A3 l3 c3) (bI bl)) (h4l : is.length ≤ maxLen) (h4s : Src .i64 w (.slice A4 l4 c4) is) (h4o : ∀ x ∈ is, ok64 x) :
    Calls Try.prog 3 #[.slice A ln c, .int .u64 u, .int .i64 n, .slice A3 l3 c3, .slice A4 l4 c4] w fun e w' => e = .returned (.bool true) ∧ Below w.heap.size w w' := by
  obtain ⟨i0, hi0, hz0, hz1, hz2⟩ := info_parts val_info
  have HU := Lib.hid hu
  have HN := Lib.hid hn
  have H3L := Lib.hid h3l
  have H3S := Lib.hid h3s
  have H4L := Lib.hid h4l
  have H4S := Lib.hid h4s
  have H4O := Lib.hid h4o
  clear hu hn h3l h3s h4l h4s h4o
  go_enter Try.func3, Try.ntmps3
  go_wp2_with fail
  refine (vals_any ls A ln c w hln hlm hwf hsrc).mono ?_
  rintro e w1 ⟨a1, c1, ys, rfl, hy8, hown, hys, hb1, _⟩
  obtain ⟨m, hm⟩ : ∃ m, ys.length = m := ⟨_, rfl⟩
  rw [hm] at hy8 hown hys ⊢
  have HM := Lib.hid hm
  have HYS := Lib.hid hys
  have HOW := Lib.hid hown
  have HB1 := Lib.hid hb1
  clear hm hys hwf hln hlm hsrc hown hb1
  go_wp2_with fail
  refine (few_any _ (bI bl) 200 w1 (src_below H3S.out HB1.out) H3L.out (by decide)).mono ?_
  rintro e w2 ⟨a2, c2, rfl, hown2, hb2⟩
  rw [bI_take] at hown2 ⊢
  obtain ⟨sb, hsb⟩ : ∃ l, bl.take 200 = l := ⟨_, rfl⟩
  rw [hsb] at hown2 ⊢
  have hsbl : sb.length ≤ 200 := by rw [← hsb, List.length_take]; omega
  obtain ⟨q3, hq3⟩ : ∃ q, sb.length = q := ⟨_, rfl⟩
  rw [bI_len, hq3] at hown2 ⊢
  rw [hq3] at hsbl
  have HQ3 := Lib.hid hq3
  have HO2 := Lib.hid hown2
  have HB2 := Lib.hid (HB1.out.trans (hb2.mono HB1.out.size))
  have HC2 := Lib.hid hb2
  clear hown2 hb2 hsb hq3
  go_wp2_with fail
  refine (ints_any _ is 20 w2 (src_below H4S.out HB2.out) H4L.out (by decide)).mono ?_
  rintro e w3 ⟨a3, c3', rfl, hown3, hb3⟩
  obtain ⟨sl, hsl⟩ : ∃ l, is.take 20 = l := ⟨_, rfl⟩
  rw [hsl] at hown3 ⊢
  have hsll : sl.length ≤ 20 := by rw [← hsl, List.length_take]; omega
  have HSO := Lib.hid (show ∀ x ∈ sl, ok64 x by
    intro x hx
    rw [← hsl] at hx
    exact H4O.out x (List.mem_of_mem_take hx))
  obtain ⟨q4, hq4⟩ : ∃ q, sl.length = q := ⟨_, rfl⟩
  rw [hq4] at hown3 hsll ⊢
  have HQ4 := Lib.hid hq4
  have HB3 := Lib.hid (HB2.out.trans (hb3.mono HB2.out.size))
  have HC3 := Lib.hid (HC2.out.trans (hb3.mono HC2.out.size))
  have HOW3 := Lib.hid (own_below HOW.out HC3.out)
  have HI2 := Lib.hid (show In .u8 w3 (Off w.heap.size (.slice a1 m c1)) (.slice a2 q3 c2) (bI sb) from
    (In.new ((In.own HO2.out).mono (fun b _ h => ⟨by have := HB1.out.size; omega, fun e => by have := (HOW.out.lt b e).2; omega⟩)) hb3))
  have HI3 := Lib.hid (show In .i64 w3 (Off w.heap.size (.slice a1 m c1)) (.slice a3 q4 c3') sl from
    ((In.own hown3).mono (fun b _ h => ⟨by have := HB2.out.size; omega, fun e => by have := (HOW.out.lt b e).2; have := HC2.out.size; omega⟩)))
  have HYS3 := Lib.hid (fun z hz => (⟨(HYS.out z hz).1, (HYS.out z hz).2.new HC3.out⟩ : Short z.x ∧ z.In w3 (Off w.heap.size (.slice a1 m c1))))
  have HP2 := Lib.hid (show m + 5 ≤ maxLen by unfold maxLen; omega)
  have HP3 := Lib.hid (show (m + 5) * 72 ≤ 140737488355328 by omega)
  have HP4 := Lib.hid HB3.out.size
  clear hsl hq4 hown3 hb3 H3L H3S H4L H4S H4O
  go_wp2_with (at_builtin; refine wpList_append_own_at _ rfl _ _ 25 rfl w.heap.size 28 i0 _ 5 72 Try.underlying25 hi0 hz0 hz1 hz2 rfl (by decide) _ _ _ rfl (HOW3.out.alloc _) ⟨w3.heap.size, 0, none⟩ 5 5 [_, _, _, _, _, _, _, _, _, _, _, _, _, _, _, _, _, _, _, _, _, _, _, _, _] rfl rfl (lit_new _ [_, _, _, _, _, _, _, _, _, _, _, _, _, _, _, _, _, _, _, _, _, _, _, _, _] _) (all_one [_, _, _, _, _, _, _, _, _, _, _, _, _, _, _, _, _, _, _, _, _, _, _, _, _] rfl) HP2.out HP3.out (alloc_ge HP4.out) ?_; intro v' w4 hown' hgrow _ hat)
  have hba := fun o => (Below.refl w3.heap.size w3).alloc (Nat.le_refl _) o
  obtain ⟨hrow, hall, hb4⟩ := rows_done (ys2 := [⟨⟨0, u, 0, [], []⟩, .slice none 0 0, .slice none 0 0⟩, ⟨⟨1, 0, n, [], []⟩, .slice none 0 0, .slice none 0 0⟩, ⟨⟨4, 0, 0, sb, []⟩, .slice a2 q3 c2, .slice none 0 0⟩, ⟨⟨5, 0, 0, [], sl⟩, .slice none 0 0, .slice a3 q4 c3'⟩, ⟨⟨2, 0, 1, [], []⟩, .slice none 0 0, .slice none 0 0⟩])
    (fun z hz => ⟨(HYS3.out z hz).1, (HYS3.out z hz).2.new (hba _)⟩) (HOW3.out.alloc _) hown' hgrow hat (HB3.out.trans ((hba _).mono HP4.out))
    (fun y hy => by
      simp only [List.mem_cons, List.not_mem_nil, or_false] at hy
      rcases hy with rfl | rfl | rfl | rfl | rfl
      · exact ⟨short_u (p := True) ⟨trivial, HU.out⟩, In.nil, In.nil⟩
      · exact ⟨short_i HN.out, In.nil, In.nil⟩
      · exact ⟨short_r (by rw [HQ3.out]; exact hsbl), HI2.out.new (hba _), In.nil⟩
      · exact ⟨short_l (by rw [HQ4.out]; exact hsll) HSO.out, In.nil, HI3.out.new (hba _)⟩
      · exact ⟨short_b (.inr rfl), In.nil, In.nil⟩) rfl
  obtain ⟨zs, hzs⟩ : ∃ zs, ys ++ [⟨⟨0, u, 0, [], []⟩, .slice none 0 0, .slice none 0 0⟩, ⟨⟨1, 0, n, [], []⟩, .slice none 0 0, .slice none 0 0⟩, ⟨⟨4, 0, 0, sb, []⟩, .slice a2 q3 c2, .slice none 0 0⟩, ⟨⟨5, 0, 0, [], sl⟩, .slice none 0 0, .slice a3 q4 c3'⟩, ⟨⟨2, 0, 1, [], []⟩, .slice none 0 0, .slice none 0 0⟩] = zs := ⟨_, rfl⟩
  have hzl : zs.length = m + 5 := by rw [← hzs, List.length_append, HM.out]; rfl
  rw [hzs] at hrow hall
  obtain ⟨a5, c5, rfl⟩ := own_form hrow
  have hvs := Vs.of_rows hrow hzl.symm hall
  obtain ⟨k, hk⟩ : ∃ k, m + 5 = k := ⟨_, rfl⟩
  rw [hk] at hzl hvs ⊢
  have hk13 : k ≤ 13 := by omega
  obtain ⟨g, hg⟩ : ∃ g, w4.heap.size = g := ⟨_, rfl⟩
  have hw0 := Wr.zero w4
  have hbz := (Below.refl w4.heap.size w4).alloc (Nat.le_refl _) (.cells #[.slice none 0 0] 32)
  have HGS := Lib.hid (show w.heap.size ≤ g by rw [← hg]; exact hb4.size)
  have HBZ := Lib.hid (hb4.trans (hbz.mono hb4.size))
  have HVS := Lib.hid (show Vs (w4.alloc (.cells #[.slice none 0 0] 32)) (· < g) (.slice a5 k c5) zs by rw [← hg]; exact hvs.new hbz)
  rw [hg] at hw0 ⊢
  have HW0 := Lib.hid hw0
  have HZL := Lib.hid hzl
  have HSH := Lib.hid (show ∀ y ∈ zs, Short y.x from fun y hy => (hall y hy).1)
  clear hzs hrow hall hown' hgrow hat hba hzl hvs hk hb4 hg hw0 hbz HYS HYS3 HM HP2 HP3 HP4 HI2 HI3 HO2 HOW HOW3 HB1 HB2 HB3 HC2 HC3 HSO HQ3 HQ4
  go_loopw [13] (fun i wr => ∃ j : Nat, j ≤ k ∧ i = .int .i64 j ∧ Wr wr g (encs (xs (zs.take j))) ∧ Vs wr (· < g) (.slice a5 k c5) zs ∧ Below w.heap.size w wr) (fun i _ => k - (intOf i).toNat)
  case atStart => exact ⟨0, by omega, rfl, HW0.out, HVS.out, HBZ.out⟩
  case round =>
    obtain ⟨j, hj, rfl, hwr, hvs, hb⟩ := hrel
    have HWR := Lib.hid hwr
    have HVV := Lib.hid hvs
    have HBB := Lib.hid hb
    clear hwr hvs hb
    by_cases hlt : j < k
    · have hjl : j < zs.length := by rw [HZL.out]; exact hlt
      obtain ⟨y, hy⟩ : ∃ y, zs[j]? = some y := ⟨_, List.getElem?_eq_getElem hjl⟩
      obtain ⟨G, rfl, hg1, hg2, hyi, hc0, hc1, hc2, hc3, hc4⟩ := HVV.out.at_ hy
      have HS := Lib.hid (encs_take_succ hy)
      have HSY := Lib.hid (HSH.out y (List.mem_of_getElem? hy))
      have HYI := Lib.hid hyi
      have HLE := Lib.hid (show (encs (xs (zs.take j))).length ≤ 800000 by
        have := encs_short (ys := zs.take j) (fun z hz => HSH.out z (List.mem_of_mem_take hz))
        have h2 : (zs.take j).length ≤ 13 := by rw [List.length_take]; omega
        omega)
      have HLF := Lib.hid (show (encs (xs (zs.take (j + 1)))).length ≤ 1000 * 3 by
        have := encs_short (ys := zs.take (j + 1)) (fun z hz => HSH.out z (List.mem_of_mem_take hz))
        have h2 : (zs.take (j + 1)).length ≤ 13 := by rw [List.length_take]; omega
        omega)
      clear hy hyi
      go_wp2_with fail
      refine (write_any y g _ wr HSY.out.fit HYI.out HWR.out HLE.out).mono ?_
      rintro e w5 ⟨rfl, hw5, hb5⟩
      rw [← HS.out] at hw5
      have HW5 := Lib.hid hw5
      have HV5 := Lib.hid (HVV.out.lt_below hb5)
      have HB5 := Lib.hid (HBB.out.trans (hb5.mono HGS.out))
      clear hw5 hb5 hc0 hc1 hc2 hc3 hc4
      obtain ⟨aj, hsl, hvt⟩ := HV5.out.to_ (j + 1) (by omega) ((j : Int) + 1) (by omega)
      have hwr1 : IntKind.i64.wrap ((j : Int) + 1) = (j : Int) + 1 := IntWalk.i64_in _ (by omega)
      have HVT := Lib.hid (hvt.drew)
      have HWD := Lib.hid (show Wr (World.drew w5) g (encs (xs (zs.take (j + 1)))) from HW5.out)
      have HTL := Lib.hid (show (zs.take (j + 1)).length = j + 1 by rw [List.length_take]; omega)
      have HTF := Lib.hid (show ∀ z ∈ zs.take (j + 1), Fit z.x from fun z hz => (HSH.out z (List.mem_of_mem_take hz)).fit)
      have HJ13 := Lib.hid (show j + 1 ≤ 40 by omega)
      obtain ⟨L, hL⟩ : ∃ L, (bI (encs (xs (zs.take (j + 1))))).length = L := ⟨_, rfl⟩
      have HL1 := Lib.hid hL
      have HL2 := Lib.hid (show L ≤ 60000 by rw [← hL, bI_len]; have := HLF.out; omega)
      clear hvt hL
      go_wp2_with fail
      go_region_held3 (fun _ => True) (trivial)
        (first | (go_at_call 16; refine (wdone_any g _ _ HWD.out (by have := HLF.out; omega)).mono ?_; rintro e w6 ⟨a6, c6, rfl, hown6, hb6⟩; rw [HL1.out] at hown6 ⊢; have HI6 := Lib.hid (In.own hown6); clear hown6) | (go_at_call 17; refine (rencode_any (zs.take (j + 1)) aj (j + 1) c5 (· < g) _ HTF.out HTL.out HJ13.out (HVT.out.new hb6)).mono ?_; rintro e w7 ⟨a7, c7, rfl, hown7, hb7⟩; rw [HL1.out] at hown7 ⊢; have HI7 := Lib.hid (In.own hown7); clear hown7) | (go_at_call 15; refine (sameBytes_any (bI (encs (xs (zs.take (j + 1))))) (bI (encs (xs (zs.take (j + 1))))) a6 a7 L L c6 c7 _ _ true w7 HL1.out.symm HL1.out.symm HL2.out HL2.out (HI6.out.new hb7).rd HI7.out.rd (Nat.le_refl _) (Nat.le_refl _) (by simp)).mono ?_; rintro e w8 ⟨rfl, hb8⟩))
      all_goals
        have hb58 : Below (World.drew w5).heap.size (World.drew w5) w8 := hb6.trans ((hb7.trans (hb8.mono hb7.size)).mono hb6.size)
        have HW8 := Lib.hid (HWD.out.new hb58)
        have HV8 := Lib.hid ((HV5.out.drew).new hb58)
        have HB8 := Lib.hid (HB5.out.drew.trans (hb58.mono HB5.out.size))
        clear hb6 hb7 hb8 hb58 hsl hwr1 HI6 HI7
        go_wp2
        go_roundw
        case rel => exact ⟨j + 1, by omega, by go_num, HW8.out, HV8.out, HB8.out⟩
        case measure => simp [intOf]; omega
    · go_wp2_with fail
      refine (lives_any wr).mono ?_
      rintro e w5 ⟨rfl, hb5⟩
      have HB5 := Lib.hid (HBB.out.trans (hb5.mono HBB.out.size))
      go_wp2
      go_ret
      exact ⟨rfl, HB5.out⟩
theorem RowI.bytes {w : World} {a : Option Addr} {len cap : Nat} {zs : List Int} (h : RowI .u8 w a len cap zs) :
    ∃ l : List UInt8, (bI l).length ≤ maxLen ∧ Src .u8 w (.slice a len cap) (bI l) := by
  obtain ⟨ls, h1, h2, h3, h4⟩ := h.open_
  obtain ⟨l, hl⟩ := bytes_of_wf ls h3
  exact ⟨l, by rw [hl, h1]; exact h2, by rw [hl]; exact h4⟩
theorem wireWrites_law (a0 : Option Addr) (len0 cap0 : Nat) (z0 : List Int) (a1 a2 : Int) (a3 : Option Addr) (len3 cap3 : Nat) (z3 : List Int) (a4 : Option Addr) (len4 cap4 : Nat) (z4 : List Int) (w : World)
    (w0 : RowI .i64 w a0 len0 cap0 z0) (w1 : (Lit.int .u64 a1).wf = true) (w2 : (Lit.int .i64 a2).wf = true) (w3 : RowI .u8 w a3 len3 cap3 z3) (w4 : RowI .i64 w a4 len4 cap4 z4) :
    Calls Try.prog 3 #[.slice a0 len0 cap0, .int .u64 a1, .int .i64 a2, .slice a3 len3 cap3, .slice a4 len4 cap4] w fun e w' => e = .returned (.bool true) ∧ Below w.heap.size w w' := by
  obtain ⟨u, rfl, hu⟩ := u64_of_wf w1
  obtain ⟨ls, h1, h2, h3, h4⟩ := w0.open_
  obtain ⟨l, h5, h6⟩ := w3.bytes
  obtain ⟨is, h7, h8, h9, h10⟩ := w4.open_
  exact wireWrites_walk ls a0 len0 cap0 u a2 l a3 len3 cap3 is a4 len4 cap4 w h1 h2 h3 h4 hu (i64_of_wf w2) h5 h6 (by rw [h7]; exact h8) h10 (fun x hx => i64_of_wf (h9 x hx))
end Go.Proofs.Ytgcgifjfgmhhmaa
