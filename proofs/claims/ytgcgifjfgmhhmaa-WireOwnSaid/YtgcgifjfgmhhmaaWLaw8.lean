/- The walk of WireOwn: the law returns true for every input; what lay lies as it lay. -/
import Derived.Test.YtgcgifjfgmhhmaaWLaw7
namespace Go.Proofs.Ytgcgifjfgmhhmaa
open Go.RowKit

theorem ofInts_short : ∀ l : List Int, (∀ y ∈ l, ok64 y) → (ofInts l).length ≤ 10 * l.length := by
  intro l
  induction l with
  | nil => intro _; simp [ofInts]
  | cons y l ih =>
    intro h
    have h1 := h y (List.mem_cons_self ..)
    have h2 := ih (fun z hz => h z (List.mem_cons_of_mem _ hz))
    have h3 := uv_len10 (zz_lt h1.1 h1.2)
    simp only [ofInts, List.flatMap_cons, List.length_append, List.length_cons] at h2 ⊢
    omega
theorem own_ys {w : World} {base n : Nat} {e : TypeId} {v : Value} {k : IntKind} {ys : List Int} (h : w.ownsRow base e 1 v n (vs k ys)) : ys.length = n := by
  have := h.1
  rw [vs_length] at this
  omega
theorem own_pos {w : World} {base size n : Nat} {e : TypeId} {v : Value} {zs : List Value} (h : w.ownsRow base e size v n zs) (hn : 0 < n) : ∃ g cap, v = .slice (some ⟨g, 0, none⟩) n cap := by
  rcases h.2 with ⟨_, h0⟩ | ⟨g, cap, cur, rfl, _⟩
  · omega
  · exact ⟨g, cap, rfl⟩
set_option maxRecDepth 100000 in
set_option maxHeartbeats 6400000 in
theorem wireOwn_walk (bl : List UInt8) (A0 : Option Addr) (l0 c0 : Nat) (is : List Int) (A1 : Option Addr) (l1 d1 : Nat) (w : World)
    (h0l : (bI bl).length ≤ maxLen) (h0s : Src .u8 w (.slice A0 l0 c0) (bI bl)) (h1l : is.length ≤ maxLen) (h1s : Src .i64 w (.slice A1 l1 d1) is) (h1o : ∀ x ∈ is, ok64 x) :
    Calls Try.prog 9 #[.slice A0 l0 c0, .slice A1 l1 d1] w fun e w' => e = .returned (.bool true) ∧ Below w.heap.size w w' := by
  obtain ⟨i0, hi0, hz0, hz1, hz2⟩ := info_parts byte_info
  have H0L := Lib.hid h0l
  have H0S := Lib.hid h0s
  have H1L := Lib.hid h1l
  have H1S := Lib.hid h1s
  have H1O := Lib.hid h1o
  clear h0l h0s h1l h1s h1o
  go_enter Try.func9, Try.ntmps9
  go_wp2_with fail
  refine (few_any _ (bI bl) 30 w H0S.out H0L.out (by decide)).mono ?_
  rintro e w1 ⟨a1, c1, rfl, hown1, hb1⟩
  rw [bI_take] at hown1 ⊢
  obtain ⟨ob, hob⟩ : ∃ l, bl.take 30 = l := ⟨_, rfl⟩
  rw [hob] at hown1 ⊢
  have hobl : ob.length ≤ 30 := by rw [← hob, List.length_take]; omega
  obtain ⟨p, hp⟩ : ∃ q, ob.length = q := ⟨_, rfl⟩
  rw [bI_len, hp] at hown1 ⊢
  rw [hp] at hobl
  have HP := Lib.hid hp
  have HO1 := Lib.hid hown1
  have HA1 := Lib.hid hown1.lt
  have HB1 := Lib.hid hb1
  clear hob hp hown1 hb1
  go_wp2_with fail
  refine (ints_any _ is 10 w1 (src_below H1S.out HB1.out) H1L.out (by decide)).mono ?_
  rintro e w2 ⟨a2, c2, rfl, hown2, hb2⟩
  obtain ⟨ns, hns⟩ : ∃ l, is.take 10 = l := ⟨_, rfl⟩
  rw [hns] at hown2 ⊢
  have hnsl : ns.length ≤ 10 := by rw [← hns, List.length_take]; omega
  have HNO := Lib.hid (show ∀ x ∈ ns, ok64 x by
    intro x hx
    rw [← hns] at hx
    exact H1O.out x (List.mem_of_mem_take hx))
  obtain ⟨q, hq⟩ : ∃ q, ns.length = q := ⟨_, rfl⟩
  rw [hq] at hown2 hnsl ⊢
  have HQ := Lib.hid hq
  have HNS := Lib.hid hns
  have HO2 := Lib.hid hown2
  have HA2 := Lib.hid hown2.lt
  have HB2 := Lib.hid (HB1.out.trans (hb2.mono HB1.out.size))
  have HO12 := Lib.hid (own_below HO1.out hb2)
  have HZ1 := Lib.hid HB1.out.size
  have HZ2 := Lib.hid hb2.size
  clear hns hq hown2 hb2 HO1
  have hbz := (Below.refl w2.heap.size w2).alloc (Nat.le_refl _) (.cells #[.slice none 0 0] 32)
  have HI3 := Lib.hid (((In.own HO12.out).in_lt.mono (ok' := (· < w2.heap.size)) (fun b h _ => h)).new hbz)
  have HN3 := Lib.hid (((In.own HO2.out).in_lt.mono (ok' := (· < w2.heap.size)) (fun b h _ => h)).new hbz)
  clear hbz
  go_wp2_with fail
  refine (wraw_any ob _ _ _ w2.heap.size [] _ HP.out (by omega) HI3.out (Wr.zero w2) (by decide)).mono ?_
  rintro e w4 ⟨rfl, hw4, hb4⟩
  have HC4 := Lib.hid (((Below.refl w2.heap.size w2).alloc (Nat.le_refl _) (.cells #[.slice none 0 0] 32)).trans hb4)
  have HN4 := Lib.hid (HN3.out.lt_below hb4 (by simp))
  have HW4 := Lib.hid hw4
  have HU1 := Lib.hid (uv_len10 (n := ob.length) (by rw [HP.out]; omega))
  have HU2 := Lib.hid (uv_len10 (n := ns.length) (by rw [HQ.out]; omega))
  have HU3 := Lib.hid (ofInts_short ns HNO.out)
  clear hw4 hb4 HI3 HN3
  go_wp2_with fail
  refine (wints_any ns _ _ _ w2.heap.size _ _ HQ.out (by omega) HNO.out HN4.out HW4.out (by have := HU1.out; have := HP.out; simp only [List.nil_append, List.length_append]; omega)).mono ?_
  rintro e w5 ⟨rfl, hw5, hb5⟩
  obtain ⟨bs, hbs⟩ : ∃ bs, ([] : List UInt8) ++ (uv ob.length ++ ob) ++ (uv ns.length ++ ofInts ns) = bs := ⟨_, rfl⟩
  rw [hbs] at hw5
  have hbl : bs.length ≤ 150 := by
    have := HU1.out; have := HU2.out; have := HU3.out; have := HP.out; have := HQ.out
    rw [← hbs]
    simp only [List.nil_append, List.length_append]
    omega
  obtain ⟨m, hm⟩ : ∃ q, bs.length = q := ⟨_, rfl⟩
  rw [hm] at hbl
  have HM := Lib.hid hm
  have HPS := Lib.hid (show partS ⟨bs, 0⟩ = (ob, ⟨uv ns.length ++ ofInts ns, 0⟩) by rw [← hbs, List.nil_append]; exact partS_rt ob _ (by rw [HP.out]; omega))
  have HIS := Lib.hid (show intsS ⟨uv ns.length ++ ofInts ns, 0⟩ = (ns, ⟨[], 0⟩) by
    have := intsS_rt ns [] (by rw [HQ.out]; omega) HNO.out (by rw [List.append_nil]; exact ofInts_len ns)
    rwa [List.append_nil] at this)
  have HIL := Lib.hid (show (lenS ⟨uv ns.length ++ ofInts ns, 0⟩).1 ≤ 110 from lenS_small (l := uv ns.length ++ ofInts ns) (fun _ => rfl) (by have := HU2.out; have := HU3.out; have := HQ.out; rw [List.length_append]; omega))
  have HW5 := Lib.hid hw5
  have HC5 := Lib.hid (HC4.out.trans hb5)
  have HB5 := Lib.hid (HB2.out.trans (HC5.out.mono HB2.out.size))
  have HZ5 := Lib.hid HC5.out.size
  have HO15 := Lib.hid (own_below HO12.out HC5.out)
  have HO25 := Lib.hid (own_below HO2.out HC5.out)
  clear hbs hm hw5 hb5 HC4 HN4 HW4 HU1 HU2 HU3 HO12 HO2 HB2 HC5
  go_wp2_with fail
  refine (wdone_any _ _ _ HW5.out (by rw [HM.out]; omega)).mono ?_
  rintro e w6 ⟨a6, c6, rfl, hown6, hb6⟩
  rw [bI_len, HM.out] at hown6 ⊢
  have HZ6 := Lib.hid hb6.size
  have HO6 := Lib.hid hown6
  have HA6 := Lib.hid hown6.lt
  have HB6 := Lib.hid (HB5.out.trans (hb6.mono HB5.out.size))
  have HO16 := Lib.hid (own_below HO15.out hb6)
  have HO26 := Lib.hid (own_below HO25.out hb6)
  have HK6 := Lib.hid (Kp.new (t := (· < w2.heap.size)) hb6)
  have hown0 := World.ownsRow_made (base := w6.heap.size) (e := 5) (size := 1) w6 #[] 0 (Nat.le_refl _) (by decide) rfl
  have HI6 := Lib.hid ((In.own hown6).new (w' := w6.alloc (.cells #[] 5)) ((Below.refl _ w6).alloc (Nat.le_refl _) _))
  have HQ1 := Lib.hid (show 0 + m ≤ maxLen by unfold maxLen; omega)
  have HQ2 := Lib.hid (show (0 + m) * 1 ≤ 140737488355328 by omega)
  clear hown6 hb6 HO15 HO25 HB5
  go_wp2_with (at_builtin; refine wpList_append_in rfl _ _ 24 rfl w6.heap.size 5 i0 (.int .u8 0) 1 Try.underlying24 hi0 hz0 hz1 hz2 rfl _ _ _ rfl hown0 .u8 _ _ _ _ _ rfl HI6.out HQ1.out HQ2.out (alloc_ge (Nat.le_refl _)) ?_; intro v' w7 hown' hgrow; obtain ⟨a7, c7, rfl⟩ := own_form hown')
  have hb7 : Below w6.heap.size w6 w7 := ((Below.refl _ w6).alloc (Nat.le_refl _) _).grown hgrow (by simp) (own_block_ge hown0)
  rw [Nat.zero_add] at hown'
  have HZ7 := Lib.hid hb7.size
  have HO7 := Lib.hid (show w7.ownsRow w6.heap.size 5 1 (.slice a7 m c7) m (vs .u8 (bI bs)) by simpa using hown')
  have HB7 := Lib.hid (HB6.out.trans (hb7.mono HB6.out.size))
  have HO17 := Lib.hid (own_below HO16.out hb7)
  have HO27 := Lib.hid (own_below HO26.out hb7)
  have HO67 := Lib.hid (own_below HO6.out hb7)
  have HK7 := Lib.hid (HK6.out.trans (Kp.new hb7))
  clear hown' hown0 hgrow hb7 HI6 HO16 HO26 HO6 HB6 HK6
  go_wp2_with fail
  go_loopw [10] (fun i wr => ∃ (j : Nat) (ys : List Int), j ≤ p ∧ i = .int .i64 j ∧ wr.ownsRow w.heap.size 5 1 (.slice a1 p c1) p (vs .u8 ys) ∧ Kp (fun b => w.heap.size ≤ b ∧ b < w1.heap.size) w7 wr) (fun i _ => p - (intOf i).toNat)
  case atStart => exact ⟨0, bI ob, by omega, rfl, HO17.out, Kp.refl _ _⟩
  case round =>
    obtain ⟨j, ys, hj, rfl, hown, hkp⟩ := hrel
    have HR := Lib.hid hown
    have HK := Lib.hid hkp
    clear hown hkp
    by_cases hlt : j < p
    · obtain ⟨g9, c9, e9⟩ := own_pos HR.out (by omega)
      injection e9 with e91 e92 e93
      subst e91 e93
      have hyl := own_ys HR.out
      have hcell : wr.cell? ⟨g9, j, none⟩ = some (.int .u8 (ys.getD j 0)) := by
        rw [HR.out.cellAt j (by omega)]
        exact vs_get (by rw [List.getD_eq_getElem?_getD, List.getElem?_eq_getElem (by rw [hyl]; exact hlt)]; rfl)
      have hfr := HR.out.frozenAt j
      obtain ⟨hst, _⟩ := HR.out.stored j (.int .u8 7)
      rw [vs_set] at hst
      have hks := HK.out.setCell (p := ⟨g9, j, none⟩) (fun _ => HA1.out g9 rfl) (.int .u8 7)
      have HST := Lib.hid hst
      have HKS := Lib.hid hks
      generalize ys.getD j 0 = old at hcell
      clear hst hks hyl
      go_wp2_with fail
      go_roundw
      case rel => exact ⟨j + 1, _, by omega, by go_num, HST.out, HKS.out⟩
      case measure => simp [intOf]; omega
    · obtain rfl : p = j := by omega
      clear hlt hj
      obtain ⟨w8, rfl⟩ : ∃ W, W = wr := ⟨_, rfl⟩
      have HK8 := Lib.hid (HK7.out.step HK.out (fun b _ h => by have := HZ2.out; omega))
      have HB8 := Lib.hid (HB7.out.trans (HK.out.below (B := w.heap.size) HB7.out.size (fun b h => h.1)))
      have HO28 := Lib.hid (own_kp HO27.out HK.out (fun b h h' => by omega))
      have HO68 := Lib.hid (own_kp HO67.out HK.out (fun b h h' => by have := HZ2.out; have := HZ5.out; omega))
      have HO78 := Lib.hid (own_kp HO7.out HK.out (fun b h h' => by have := HZ2.out; have := HZ5.out; have := HZ6.out; omega))
      clear HR HK HK7 HB7 HO27 HO67 HO7 HO17
      go_wp2_with fail
      go_loopw [11] (fun i wr => ∃ (j : Nat) (ys : List Int), j ≤ q ∧ i = .int .i64 j ∧ wr.ownsRow w1.heap.size 3 1 (.slice a2 q c2) q (vs .i64 ys) ∧ Kp (fun b => w1.heap.size ≤ b ∧ b < w2.heap.size) w8 wr) (fun i _ => q - (intOf i).toNat)
      case atStart => exact ⟨0, ns, by omega, rfl, HO28.out, Kp.refl _ _⟩
      case round =>
        obtain ⟨j, ys, hj, rfl, hown, hkp⟩ := hrel
        have HR := Lib.hid hown
        have HK := Lib.hid hkp
        clear hown hkp
        by_cases hlt : j < q
        · obtain ⟨g9, c9, e9⟩ := own_pos HR.out (by omega)
          injection e9 with e91 e92 e93
          subst e91 e93
          have hyl := own_ys HR.out
          have hcell : wr.cell? ⟨g9, j, none⟩ = some (.int .i64 (ys.getD j 0)) := by
            rw [HR.out.cellAt j (by omega)]
            exact vs_get (by rw [List.getD_eq_getElem?_getD, List.getElem?_eq_getElem (by rw [hyl]; exact hlt)]; rfl)
          have hfr := HR.out.frozenAt j
          obtain ⟨hst, _⟩ := HR.out.stored j (.int .i64 7)
          rw [vs_set] at hst
          have hks := HK.out.setCell (p := ⟨g9, j, none⟩) (fun _ => HA2.out g9 rfl) (.int .i64 7)
          have HST := Lib.hid hst
          have HKS := Lib.hid hks
          generalize ys.getD j 0 = old at hcell
          clear hst hks hyl
          go_wp2_with fail
          go_roundw
          case rel => exact ⟨j + 1, _, by omega, by go_num, HST.out, HKS.out⟩
          case measure => simp [intOf]; omega
        · obtain rfl : q = j := by omega
          clear hlt hj
          obtain ⟨w9, rfl⟩ : ∃ W, W = wr := ⟨_, rfl⟩
          have HK9 := Lib.hid (HK8.out.step HK.out (fun b _ h => by omega))
          have HB9 := Lib.hid (HB8.out.trans (HK.out.below (B := w.heap.size) HB8.out.size (fun b h => by have := HZ1.out; omega)))
          have HO69 := Lib.hid (own_kp HO68.out HK.out (fun b h h' => by have := HZ5.out; omega))
          have HO79 := Lib.hid (own_kp HO78.out HK.out (fun b h h' => by have := HZ5.out; have := HZ6.out; omega))
          clear HR HK HK8 HB8 HO28 HO68 HO78
          go_wp2_with fail
          go_loopw [12] (fun i wr => ∃ (j : Nat) (ys : List Int), j ≤ m ∧ i = .int .i64 j ∧ wr.ownsRow w5.heap.size 5 1 (.slice a6 m c6) m (vs .u8 ys) ∧ Kp (fun b => w5.heap.size ≤ b ∧ b < w6.heap.size) w9 wr) (fun i _ => m - (intOf i).toNat)
          case atStart => exact ⟨0, bI bs, by omega, rfl, HO69.out, Kp.refl _ _⟩
          case round =>
            obtain ⟨j, ys, hj, rfl, hown, hkp⟩ := hrel
            have HR := Lib.hid hown
            have HK := Lib.hid hkp
            clear hown hkp
            by_cases hlt : j < m
            · obtain ⟨g9, c9, e9⟩ := own_pos HR.out (by omega)
              injection e9 with e91 e92 e93
              subst e91 e93
              have hyl := own_ys HR.out
              have hcell : wr.cell? ⟨g9, j, none⟩ = some (.int .u8 (ys.getD j 0)) := by
                rw [HR.out.cellAt j (by omega)]
                exact vs_get (by rw [List.getD_eq_getElem?_getD, List.getElem?_eq_getElem (by rw [hyl]; exact hlt)]; rfl)
              have hfr := HR.out.frozenAt j
              obtain ⟨hst, _⟩ := HR.out.stored j (.int .u8 9)
              rw [vs_set] at hst
              have hks := HK.out.setCell (p := ⟨g9, j, none⟩) (fun _ => HA6.out g9 rfl) (.int .u8 9)
              have HST := Lib.hid hst
              have HKS := Lib.hid hks
              generalize ys.getD j 0 = old at hcell
              clear hst hks hyl
              go_wp2_with fail
              go_roundw
              case rel => exact ⟨j + 1, _, by omega, by go_num, HST.out, HKS.out⟩
              case measure => simp [intOf]; omega
            · obtain rfl : m = j := by omega
              clear hlt hj
              obtain ⟨w10, rfl⟩ : ∃ W, W = wr := ⟨_, rfl⟩
              have HW10 := Lib.hid (HW5.out.kp (HK9.out.step HK.out (fun b h1 h2 => by omega)) (fun b _ h h' => by omega))
              have HB10 := Lib.hid (HB9.out.trans (HK.out.below (B := w.heap.size) HB9.out.size (fun b h => by have := HZ1.out; have := HZ2.out; have := HZ5.out; omega)))
              have HI10 := Lib.hid (In.own (own_kp HO79.out HK.out (fun b h h' => by omega)))
              clear HR HK HK9 HB9 HO69 HO79 HW5
              go_wp2_with fail
              refine (wdone_any _ _ _ HW10.out (by rw [HM.out]; omega)).mono ?_
              rintro e w11 ⟨a11, c11, rfl, hown11, hb11⟩
              rw [bI_len, HM.out] at hown11 ⊢
              have HI11 := Lib.hid (In.own hown11)
              have HJ11 := Lib.hid (HI10.out.new hb11)
              have HB11 := Lib.hid (HB10.out.trans (hb11.mono HB10.out.size))
              clear hown11 hb11 HI10 HB10 HW10
              go_wp2_with fail
              refine (sameBytes_any (bI bs) (bI bs) _ _ m m _ _ _ _ true w11 (by rw [bI_len, HM.out]) (by rw [bI_len, HM.out]) (by omega) (by omega) HI11.out.rd HJ11.out.rd (Nat.le_refl _) (Nat.le_refl _) (by simp)).mono ?_
              rintro e w12 ⟨rfl, hb12⟩
              have HB12 := Lib.hid (HB11.out.trans (hb12.mono HB11.out.size))
              have HJ12 := Lib.hid ((HJ11.out.new hb12).new (w' := w12.alloc (.cells #[] 5)) ((Below.refl _ w12).alloc (Nat.le_refl _) _))
              have hown0 := World.ownsRow_made (base := w12.heap.size) (e := 5) (size := 1) w12 #[] 0 (Nat.le_refl _) (by decide) rfl
              clear hb12 HB11 HI11 HJ11
              go_wp2_with (at_builtin; refine wpList_append_in rfl _ _ 24 rfl w12.heap.size 5 i0 (.int .u8 0) 1 Try.underlying24 hi0 hz0 hz1 hz2 rfl _ _ _ rfl hown0 .u8 _ _ _ _ _ rfl HJ12.out HQ1.out HQ2.out (alloc_ge (Nat.le_refl _)) ?_; intro v' w13 hown' hgrow; obtain ⟨a13, c13, rfl⟩ := own_form hown')
              have hb13 : Below w12.heap.size w12 w13 := ((Below.refl _ w12).alloc (Nat.le_refl _) _).grown hgrow (by simp) (own_block_ge hown0)
              rw [Nat.zero_add] at hown'
              have HO13 := Lib.hid (show w13.ownsRow w12.heap.size 5 1 (.slice a13 m c13) m (vs .u8 (bI bs)) by simpa using hown')
              have HA13 := Lib.hid HO13.out.lt
              have HB13 := Lib.hid (HB12.out.trans (hb13.mono HB12.out.size))
              have HZ13 := Lib.hid (show w.heap.size ≤ w12.heap.size from HB12.out.size)
              clear hown' hown0 hgrow hb13 HJ12 HB12
              go_wp2_with fail
              refine (read_new bs a13 m c13 _ w13 HM.out (by omega) (In.own HO13.out)).mono ?_
              rintro e w14 ⟨⟨g, rfl, hr14, hg14⟩, hb14⟩
              have HR14 := Lib.hid hr14
              have HG14 := Lib.hid hg14
              have HL14 := Lib.hid hr14.lt
              have HO14 := Lib.hid (own_below HO13.out hb14)
              have HB14 := Lib.hid (HB13.out.trans (hb14.mono HB13.out.size))
              have HZ14 := Lib.hid (Nat.le_trans HB13.out.size hg14)
              clear hr14 hg14 hb14 HO13 HB13
              go_wp2_with fail
              go_loopw [15] (fun i wr => ∃ (j : Nat) (ys : List Int), j ≤ m ∧ i = .int .i64 j ∧ wr.ownsRow w12.heap.size 5 1 (.slice a13 m c13) m (vs .u8 ys) ∧ Kp (fun b => w12.heap.size ≤ b ∧ b < w13.heap.size) w14 wr) (fun i _ => m - (intOf i).toNat)
              case atStart => exact ⟨0, bI bs, by omega, rfl, HO14.out, Kp.refl _ _⟩
              case round =>
                obtain ⟨j, ys, hj, rfl, hown, hkp⟩ := hrel
                have HR := Lib.hid hown
                have HK := Lib.hid hkp
                clear hown hkp
                by_cases hlt : j < m
                · obtain ⟨g9, c9, e9⟩ := own_pos HR.out (by omega)
                  injection e9 with e91 e92 e93
                  subst e91 e93
                  have hyl := own_ys HR.out
                  have hcell : wr.cell? ⟨g9, j, none⟩ = some (.int .u8 (ys.getD j 0)) := by
                    rw [HR.out.cellAt j (by omega)]
                    exact vs_get (by rw [List.getD_eq_getElem?_getD, List.getElem?_eq_getElem (by rw [hyl]; exact hlt)]; rfl)
                  have hfr := HR.out.frozenAt j
                  obtain ⟨hst, _⟩ := HR.out.stored j (.int .u8 255)
                  rw [vs_set] at hst
                  have hks := HK.out.setCell (p := ⟨g9, j, none⟩) (fun _ => HA13.out g9 rfl) (.int .u8 255)
                  have HST := Lib.hid hst
                  have HKS := Lib.hid hks
                  generalize ys.getD j 0 = old at hcell
                  clear hst hks hyl
                  go_wp2_with fail
                  go_roundw
                  case rel => exact ⟨j + 1, _, by omega, by go_num, HST.out, HKS.out⟩
                  case measure => simp [intOf]; omega
                · obtain rfl : m = j := by omega
                  clear hlt hj
                  obtain ⟨w15, rfl⟩ : ∃ W, W = wr := ⟨_, rfl⟩
                  have HR15 := Lib.hid (HR14.out.kp HK.out (fun h => by have := HG14.out; omega) (fun b _ h h' => by omega))
                  have HB15 := Lib.hid (HB14.out.trans (HK.out.below (B := w.heap.size) HB14.out.size (fun b h => by have := HZ13.out; omega)))
                  have HL15 := Lib.hid (Nat.lt_of_lt_of_le HL14.out HK.out.size)
                  clear HR HK HR14 HB14 HO14
                  go_wp2_with fail
                  refine (rdraw_any g _ _ w15 HR15.out (by rw [HPS.out]; show ob.length ≤ _; rw [HP.out]; omega)).mono ?_
                  rw [HPS.out]
                  rintro e w16 ⟨⟨a16, n16, c16, rfl, hn16, hown16⟩, hr16, hk16⟩
                  dsimp only at hn16 hown16 hr16
                  rw [HP.out] at hn16
                  subst hn16
                  have HO16' := Lib.hid hown16
                  have HA16 := Lib.hid hown16.lt
                  have HR16 := Lib.hid hr16
                  have HB16 := Lib.hid (below_own1 HB15.out (Nat.le_refl _) hk16 HZ14.out)
                  have HZ16 := Lib.hid (Nat.le_trans HZ14.out (Nat.le_of_lt HL15.out))
                  clear hown16 hr16 hk16 HR15 HB15
                  go_wp2_with fail
                  go_loopw [17] (fun i wr => ∃ (j : Nat) (ys : List Int), j ≤ n16 ∧ i = .int .i64 j ∧ wr.ownsRow w15.heap.size 5 1 (.slice a16 n16 c16) n16 (vs .u8 ys) ∧ Kp (fun b => w15.heap.size ≤ b ∧ b < w16.heap.size) w16 wr) (fun i _ => n16 - (intOf i).toNat)
                  case atStart => exact ⟨0, bI ob, by omega, rfl, HO16'.out, Kp.refl _ _⟩
                  case round =>
                    obtain ⟨j, ys, hj, rfl, hown, hkp⟩ := hrel
                    have HR := Lib.hid hown
                    have HK := Lib.hid hkp
                    clear hown hkp
                    by_cases hlt : j < n16
                    · obtain ⟨g9, c9, e9⟩ := own_pos HR.out (by omega)
                      injection e9 with e91 e92 e93
                      subst e91 e93
                      have hyl := own_ys HR.out
                      have hcell : wr.cell? ⟨g9, j, none⟩ = some (.int .u8 (ys.getD j 0)) := by
                        rw [HR.out.cellAt j (by omega)]
                        exact vs_get (by rw [List.getD_eq_getElem?_getD, List.getElem?_eq_getElem (by rw [hyl]; exact hlt)]; rfl)
                      have hfr := HR.out.frozenAt j
                      obtain ⟨hst, _⟩ := HR.out.stored j (.int .u8 1)
                      rw [vs_set] at hst
                      have hks := HK.out.setCell (p := ⟨g9, j, none⟩) (fun _ => HA16.out g9 rfl) (.int .u8 1)
                      have HST := Lib.hid hst
                      have HKS := Lib.hid hks
                      generalize ys.getD j 0 = old at hcell
                      clear hst hks hyl
                      go_wp2_with fail
                      go_roundw
                      case rel => exact ⟨j + 1, _, by omega, by go_num, HST.out, HKS.out⟩
                      case measure => simp [intOf]; omega
                    · obtain rfl : n16 = j := by omega
                      clear hlt hj
                      obtain ⟨w17, rfl⟩ : ∃ W, W = wr := ⟨_, rfl⟩
                      have HR17 := Lib.hid (HR16.out.kp HK.out (fun h => by have := HL15.out; omega) (fun b _ h h' => by have := HL15.out; have := h.2; omega))
                      have HB17 := Lib.hid (HB16.out.trans (HK.out.below (B := w.heap.size) HB16.out.size (fun b h => by have := HZ16.out; omega)))
                      have HL17 := Lib.hid (HR17.out.lt)
                      clear HR HK HR16 HB16 HO16'
                      go_wp2_with fail
                      refine (rdints_any g _ _ w17 HR17.out (by have := HIL.out; omega) (fun b hb => Nat.lt_trans hb.2 HR17.out.lt)).mono ?_
                      rw [HIS.out]
                      rintro e w18 ⟨⟨a18, n18, c18, rfl, hn18, hown18⟩, hr18, hk18⟩
                      dsimp only at hn18 hown18 hr18
                      rw [HQ.out] at hn18
                      subst hn18
                      have HI18 := Lib.hid (In.own hown18)
                      have HR18 := Lib.hid hr18
                      have HB18 := Lib.hid (below_own1 HB17.out (Nat.le_refl _) hk18 HZ14.out)
                      clear hown18 hr18 hk18 HR17 HB17
                      go_wp2_with fail
                      refine (ints_any _ is 10 w18 (src_below H1S.out HB18.out) H1L.out (by decide)).mono ?_
                      rintro e w19 ⟨a19, c19, rfl, hown19, hb19⟩
                      rw [HNS.out] at hown19 ⊢
                      rw [HQ.out] at hown19 ⊢
                      have HI19 := Lib.hid (In.own hown19)
                      have HJ19 := Lib.hid (HI18.out.new hb19)
                      have HR19 := Lib.hid (HR18.out.new hb19)
                      have HB19 := Lib.hid (HB18.out.trans (hb19.mono HB18.out.size))
                      clear hown19 hb19 HI18 HR18 HB18
                      go_wp2_with fail
                      refine (sameInts_any ns ns _ _ n18 n18 _ _ _ _ true w19 HQ.out.symm HQ.out.symm (by omega) (by omega) HJ19.out.rd HI19.out.rd (Nat.le_refl _) (Nat.le_refl _) (by simp)).mono ?_
                      rintro e w20 ⟨rfl, hb20⟩
                      have HR20 := Lib.hid (HR19.out.new hb20)
                      have HB20 := Lib.hid (HB19.out.trans (hb20.mono HB19.out.size))
                      clear hb20 HI19 HJ19 HR19 HB19
                      go_wp2_with fail
                      refine (rdend_any g _ _ w20 HR20.out).mono ?_
                      rw [show endS ⟨[], 0⟩ = 0 from rfl]
                      rintro e w' ⟨rfl, rfl⟩
                      go_wp2_with fail
                      refine (lives_any w20).mono ?_
                      rintro e w21 ⟨rfl, hb21⟩
                      have HB21 := Lib.hid (HB20.out.trans (hb21.mono HB20.out.size))
                      go_wp2
                      go_ret
                      exact ⟨rfl, HB21.out⟩
theorem wireOwn_law (a0 : Option Addr) (len0 cap0 : Nat) (z0 : List Int) (a1 : Option Addr) (len1 cap1 : Nat) (z1 : List Int) (w : World)
    (w0 : RowI .u8 w a0 len0 cap0 z0) (w1 : RowI .i64 w a1 len1 cap1 z1) :
    Calls Try.prog 9 #[.slice a0 len0 cap0, .slice a1 len1 cap1] w fun e w' => e = .returned (.bool true) ∧ Below w.heap.size w w' := by
  obtain ⟨bl, g1, g2⟩ := w0.bytes
  obtain ⟨ls, h1, h2, h3, h4⟩ := w1.open_
  exact wireOwn_walk bl a0 len0 cap0 ls a1 len1 cap1 w g1 g2 (by rw [h1]; exact h2) h4 (fun x hx => i64_of_wf (h3 x hx))
end Go.Proofs.Ytgcgifjfgmhhmaa
