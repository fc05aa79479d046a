/- The walk of WideTexts: the law returns true for every input; what lay lies as it lay. -/
import Derived.Test.YtpcliampffeknaaNRj
import Derived.Deep.DeepCutAuto
import Derived.Laws.BytesArg
import Derived.Laws.Concat
namespace Go.Proofs.Ytpcliampffeknaa
open Go.RowKit
attribute [local go_sem ↓] Go.wp_at_zero Go.wp_at_succ
/-- A block whose first k cells are strings. -/
def Strs (w : World) (B k : Nat) : Prop := ∀ i, i < k → ∃ l : List UInt8, w.cell? ⟨B, i, none⟩ = some (.string ⟨l.toArray⟩) ∧ l.length ≤ 100000
theorem Strs.new {w w' : World} {B k : Nat} (h : Strs w B k) (hb : Below w.heap.size w w') : Strs w' B k := by
  intro i hi
  obtain ⟨l, h1, h2⟩ := h i hi
  exact ⟨l, (hb.cell (World.block_lt_of_cell? w _ h1)).trans h1, h2⟩
theorem str_list (s : ByteArray) : ∃ l : List UInt8, s = ⟨l.toArray⟩ ∧ l.length = s.size := ⟨s.data.toList, by cases s; simp, by cases s; exact Array.length_toList⟩
theorem strs_lit {w : World} {t : TypeId} {e0 e1 e2 e3 e4 : ByteArray} (h0 : e0.size ≤ 100000) (h1 : e1.size ≤ 100000) (h2 : e2.size ≤ 100000) (h3 : e3.size ≤ 100000) (h4 : e4.size ≤ 100000) :
    Strs (w.alloc (.cells #[.string e0, .string e1, .string e2, .string e3, .string e4] t)) w.heap.size 5 := by
  obtain ⟨l0, rfl, g0⟩ := str_list e0
  obtain ⟨l1, rfl, g1⟩ := str_list e1
  obtain ⟨l2, rfl, g2⟩ := str_list e2
  obtain ⟨l3, rfl, g3⟩ := str_list e3
  obtain ⟨l4, rfl, g4⟩ := str_list e4
  have hh := heap_alloc_new w (.cells #[.string ⟨l0.toArray⟩, .string ⟨l1.toArray⟩, .string ⟨l2.toArray⟩, .string ⟨l3.toArray⟩, .string ⟨l4.toArray⟩] t)
  intro i hi
  match i, hi with
  | 0, _ => exact ⟨l0, (cell_of_row _ _ _ _ t (0, 0) hh).trans rfl, by omega⟩
  | 1, _ => exact ⟨l1, (cell_of_row _ _ _ _ t (0, 0) hh).trans rfl, by omega⟩
  | 2, _ => exact ⟨l2, (cell_of_row _ _ _ _ t (0, 0) hh).trans rfl, by omega⟩
  | 3, _ => exact ⟨l3, (cell_of_row _ _ _ _ t (0, 0) hh).trans rfl, by omega⟩
  | 4, _ => exact ⟨l4, (cell_of_row _ _ _ _ t (0, 0) hh).trans rfl, by omega⟩
theorem strs_lit2 {w : World} {t : TypeId} {c : Obj} {e0 e1 e2 e3 e4 : ByteArray} (h0 : e0.size ≤ 100000) (h1 : e1.size ≤ 100000) (h2 : e2.size ≤ 100000) (h3 : e3.size ≤ 100000) (h4 : e4.size ≤ 100000) :
    Strs ((w.alloc c).alloc (.cells #[.string e0, .string e1, .string e2, .string e3, .string e4] t)).drew (w.heap.size + 1) 5 := by
  have h := strs_lit (w := w.alloc c) (t := t) h0 h1 h2 h3 h4
  rw [show (w.alloc c).heap.size = w.heap.size + 1 by simp] at h
  exact h
theorem decI_pos (x : Int) : 1 ≤ (decI x).length := by
  unfold decI
  split
  · simp
  · exact List.length_pos_iff.2 (dec_ne _)
theorem ps_lim (l : List UInt8) : (psV l).natAbs < lim := by
  have h0 : 0 < lim := by rw [lim_two]; exact Nat.pow_pos (by decide)
  unfold psV
  split
  · exact h0
  · split
    · unfold outV
      split
      · assumption
      · exact h0
    · exact h0
theorem ps_plen {l : List UInt8} {w : World} {s : Bool} {A : Option Addr} {n c : Nat} (h : PI w s A n c (psV l)) : n ≤ 100000 := by
  have h1 := (fits_iff (psV l).natAbs).2 (ps_lim l)
  rw [h.2.1] at h1
  omega
theorem ps_rlen {l : List UInt8} {w : World} {s : Bool} {A : Option Addr} {n c : Nat} (h : RN w s A n c (psV l)) : n ≤ 150000 := by
  obtain ⟨K, hK⟩ : ∃ K, 32 * limE = K := ⟨_, rfl⟩
  have h1 := ps_lim l
  rw [lim_two, hK] at h1
  have h2 := rn_len h h1
  have : K = 16384 := by rw [← hK]; rfl
  omega
theorem num_back {l : List UInt8} (h : isNum l = true) : decI (numOf l) = l := by
  have h1 : isDecB (cutL l) = true := by unfold isNum at h; revert h; cases isDecB (cutL l) <;> simp
  obtain ⟨hd, hne, hh⟩ := isDecB_dig h1
  have hdd := dec_dval hd hne hh
  unfold numOf
  cases hb : cutB l
  · have hl : cutL l = l := by unfold cutL; rw [hb]; rfl
    rw [hl] at hdd ⊢
    rw [show sgn false (dval l) = (dval l : Int) from rfl]
    unfold decI
    rw [if_neg (by omega), Int.natAbs_natCast]
    exact hdd
  · have hS : (cutL l == [48]) = false := by
      unfold isNum at h; rw [hb] at h; revert h; cases (cutL l == [48]) <;> simp
    have hpos : 0 < dval (cutL l) := by
      rcases Nat.eq_zero_or_pos (dval (cutL l)) with e | e
      · exfalso
        rw [e, dec_lt (by decide)] at hdd
        rw [← hdd] at hS
        exact absurd hS (by decide)
      · exact e
    have hl : l = 45 :: cutL l := by
      unfold cutB at hb
      unfold cutL cutB
      rw [hb]
      rcases l with _ | ⟨a, r⟩
      · exact absurd hb (by decide)
      · have : a = 45 := by simpa using hb
        subst this; rfl
    rw [show sgn true (dval (cutL l)) = -(dval (cutL l) : Int) from rfl]
    unfold decI
    rw [if_pos (by omega), Int.natAbs_neg, Int.natAbs_natCast, hdd]
    exact hl.symm
theorem ps_back (l : List UInt8) : psC l = 0 → decI (psV l) = l := by
  unfold psC psV
  intro h
  split at h
  · omega
  · rename_i hb
    rw [if_neg hb]
    split at h
    · rename_i hn
      rw [if_pos hn]
      unfold outC at h
      split at h
      · rename_i hl
        rw [outV, if_pos hl]
        exact num_back hn
      · omega
    · omega
theorem ps_code (l : List UInt8) : psC l = 0 ∨ psC l = 2 ∨ psC l = 4 := by
  unfold psC outC
  split
  · omega
  · split
    · split <;> omega
    · omega
set_option linter.unusedSimpArgs false in
set_option maxRecDepth 100000 in
set_option maxHeartbeats 6400000 in
theorem wideTexts_walk (s : ByteArray) (xs : List Int) (A : Option Addr) (ln c : Nat) (at_ cc : Int) (w : World) (hs : s.size ≤ maxLen) (hg : Got w (.slice A ln c) xs) (haw : (Lit.int .i64 at_).wf = true) (hcw : (Lit.int .u8 cc).wf = true) :
    Calls Try.prog 3 #[.string s, .slice A ln c, .int .i64 at_, .int .u8 cc] w fun e w' => e = .returned (.bool true) ∧ Below w.heap.size w w' := by
  have HG := Lib.hid hg
  have HAW := Lib.hid haw
  have HSZ := Lib.hid hs
  obtain ⟨ha1, ha2⟩ : -9223372036854775808 ≤ at_ ∧ at_ ≤ 9223372036854775807 := by simpa [Lit.wf, IntKind.min, IntKind.max, IntKind.signed, IntKind.bits] using haw
  obtain ⟨hc1, hc2⟩ : 0 ≤ cc ∧ cc ≤ 255 := by simpa [Lit.wf, IntKind.min, IntKind.max, IntKind.signed, IntKind.bits] using hcw
  clear hg haw hs hcw
  go_enter Try.func3, Try.ntmps3
  go_wp2_with fail
  refine (number_any (.slice A ln c) xs 0 w HG.out (by decide)).mono ?_
  rintro e w1 ⟨x, s1, A1, n1, c1, rfl, hr1, hx1, hb1⟩
  have HR1 := Lib.hid hr1
  have HB1 := Lib.hid hb1
  have HX := Lib.hid (numB2 hx1)
  have hl1 : n1 ≤ 240 := B2.rlen hr1 (numB2 hx1)
  clear hr1 hb1 hx1
  go_wp2_with fail
  refine (text_any x s1 A1 n1 c1 w1 HR1.out (by omega)).mono ?_
  have HTL := Lib.hid (decI_short (lim_big (B2.lim HX.out (by decide))))
  have HTP := Lib.hid (decI_pos x)
  obtain ⟨D, hD⟩ : ∃ D : ByteArray, ByteArray.mk (decI x).toArray = D := ⟨_, rfl⟩
  have hDS : D.size = (decI x).length := by rw [← hD]; rfl
  have hD1 : 1 ≤ D.size := by have := HTP.out; omega
  have hD2 : D.size ≤ 5000 := by have := HTL.out; omega
  rintro e w2 ⟨rfl, hb2⟩
  rw [hD]
  have HB2 := Lib.hid (bt HB1.out hb2)
  clear hb2 hD hDS
  have HK := Lib.hid (aroundI_lt at_ (n := D.size) hD1)
  have HAR := Lib.hid (fun w => around_any at_ D.size w hD1 (by omega) HAW.out)
  generalize aroundI at_ D.size = k at HK HAR
  go_wp2_with fail
  refine (HAR.out w2).mono ?_
  rintro e w3 ⟨rfl, rfl⟩
  have hk := HK.out
  have hkI : (k : Int) < (D.size : Int) := by omega
  have hk0 : (0 : Int) ≤ (k : Int) := by omega
  have hkw : IntKind.i64.wrap ((k : Int) + 1) = (k : Int) + 1 := IntWalk.i64_in _ (by omega)
  have hk1 : (k : Int) + 1 ≤ (D.size : Int) := by omega
  have hk2 : (k : Int) ≤ (D.size : Int) := by omega
  have hk3 : (0 : Int) ≤ (k : Int) + 1 := by omega
  have hz1 : (strOfNums [cc]).size = 1 := strOfNums_size _
  have hz2 : (D.extract 0 k).size ≤ 5000 := by rw [ByteArray.size_extract]; omega
  have hz3 : (D.extract (k + 1) D.size).size ≤ 5000 := by rw [ByteArray.size_extract]; omega
  have hz4 : (D.extract 0 k ++ strOfNums [cc]).size ≤ 5001 := by rw [ByteArray.size_append]; omega
  have hp1 : ∀ wx : World, (Op.stringOp .add (D.extract 0 k) (strOfNums [cc])).run Try.prog wx = .ok (.string (D.extract 0 k ++ strOfNums [cc])) wx := fun wx => run_string_add_sum wx _ _ (by omega)
  have hp2 : ∀ wx : World, (Op.stringOp .add (D.extract 0 k ++ strOfNums [cc]) (D.extract (k + 1) D.size)).run Try.prog wx = .ok (.string (D.extract 0 k ++ strOfNums [cc] ++ D.extract (k + 1) D.size)) wx := fun wx => run_string_add_sum wx _ _ (by omega)
  have hp3 : ∀ wx : World, (Op.stringOp .add D D).run Try.prog wx = .ok (.string (D ++ D)) wx := fun wx => run_string_add_sum wx _ _ (by omega)
  have hcv : ∀ wx : World, wx.cell? ⟨w2.heap.size, 0, none⟩ = some (.int .u8 cc) → (convert 29 9 (.slice (some ⟨w2.heap.size, 0, none⟩) 1 1)).run Try.prog wx = .ok (.string (strOfNums [cc])) wx := fun wx h =>
    run_convert_bytes_arg wx 29 5 (by kernel_rfl) (by kernel_rfl) w2.heap.size 0 1 1 [cc] rfl (fun i hi => by have e0 : i = 0 := Nat.lt_one_iff.1 hi; subst e0; exact h) 9 (by kernel_rfl)
  have hcv1 := hcv (w2.alloc (.cells #[.int .u8 cc] 5)).drew (show (w2.alloc (.cells #[.int .u8 cc] 5)).cell? ⟨w2.heap.size, 0, none⟩ = some (.int .u8 cc) from (cell_of_row _ _ _ _ 5 (0, 0) (heap_alloc_new w2 (.cells #[.int .u8 cc] 5))).trans rfl)
  have HZ := Lib.hid (And.intro hz1 (And.intro hz2 (And.intro hz3 hz4)))
  clear hz1 hz2 hz3 hz4 hcv
  go_upto_region 3 with fail
  go_cut [11] (fun v wx => ∃ (B : Nat), v = .slice (some ⟨B, 0, none⟩) 5 5 ∧ Strs wx B 5 ∧ Below w2.heap.size w2 wx)
  case first =>
    have K1 : Hid (∀ w', Calls Try.prog 13 #[.string s, .int .i64 30] w' fun e w'' => e = .returned (.string (s.extract 0 30)) ∧ w' = w'') := Lib.hid (fun w' => short_any s 30 w' HSZ.out (by decide))
    have HLB := Lib.hid (show ∀ c c' : Obj, Below w2.heap.size w2 ((w2.alloc c).alloc c').drew from fun c c' => (((Below.refl w2.heap.size w2).alloc (Nat.le_refl _) c).alloc (by simp) c').drew)
    have HST := Lib.hid (strs_lit2 (w := w2) (t := 9) (c := .cells #[.int .u8 cc] 5) (e0 := s.extract 0 30) (e1 := D) (e2 := D.extract 0 k ++ strOfNums [cc] ++ D.extract (k + 1) D.size) (e3 := D.extract 0 k) (e4 := D ++ D) (by rw [ByteArray.size_extract]; omega) (by omega) (by rw [ByteArray.size_append]; have := HZ.out; omega) (by have := HZ.out; omega) (by rw [ByteArray.size_append]; omega))
    go_region_with (first | (go_at_call 13; refine (K1.out _).mono ?_; rintro e w5 ⟨rfl, rfl⟩))
    all_goals
      go_wp2_with fail
      go_meet
      exact ⟨_, rfl, HST.out, HLB.out _ _⟩
  case rest =>
    obtain ⟨B, rfl, hel, hb3⟩ := hcut
    have HE := Lib.hid hel
    have HW3 := Lib.hid (bt HB2.out hb3)
    obtain ⟨x3, rfl⟩ := nm_world hb3
    clear hel hb3
    go_wp2_with fail
    go_loopw [12] (fun v wr => ∃ i : Nat, i ≤ 5 ∧ v = .int .i64 (i : Int) ∧ Strs wr B 5 ∧ Below w.heap.size w wr) (fun v _ => 5 - (intOf v).toNat)
    case atStart => exact ⟨0, by omega, rfl, HE.out, HW3.out⟩
    case round =>
      obtain ⟨i, hi, rfl, hel, hbel⟩ := hrel
      have HEL := Lib.hid hel
      have HBB := Lib.hid hbel
      clear hel hbel HE HW3
      by_cases hlt : i < 5
      · obtain ⟨l, e0, hl⟩ := HEL.out i hlt
        have HE0 := Lib.hid e0
        have h0i : (0 : Int) ≤ (i : Int) := by omega
        have hi3 : (i : Int) < 5 := by omega
        have HL := Lib.hid hl
        go_wp2_with fail
        refine (pparse_any l wr hl).mono ?_
        rintro e w6 ⟨s6, A6, n6, c6, rfl, hr6, hb6⟩
        obtain ⟨x6, hx6⟩ : ∃ z, w6.alloc (.cells #[.bool s6, .slice A6 n6 c6] 33) = z := ⟨_, rfl⟩
        have HB6 := Lib.hid (show Below wr.heap.size wr x6 by rw [← hx6]; exact hb6.alloc hb6.size _)
        have HQ6 := Lib.hid (show P2 33 x6 w6.heap.size (.bool s6) (.slice A6 n6 c6) by rw [← hx6]; exact P2.lit _ _ _ _)
        have HR6 := Lib.hid (show PI x6 s6 A6 n6 c6 (psV l) by rw [← hx6]; exact PIo.new hr6 ((Below.refl _ _).alloc (Nat.le_refl _) _))
        obtain ⟨b6, hb6e⟩ : ∃ b, w6.heap.size = b := ⟨_, rfl⟩
        rw [hb6e] at HQ6
        have hl6 : n6 ≤ 100000 := ps_plen hr6
        have e1 := (HB6.out.cell (World.block_lt_of_cell? wr _ HE0.out)).trans HE0.out
        have HE6 := Lib.hid e1
        clear hr6 hb6 e0
        go_wp2_with fail
        clear hx6 hb6e
        refine (rparse_any l x6 hl).mono ?_
        rintro e w7 ⟨s7, A7, n7, c7, rfl, hr7, hb7⟩
        obtain ⟨x7, hx7⟩ : ∃ z, w7.alloc (.cells #[.bool s7, .slice A7 n7 c7] 25) = z := ⟨_, rfl⟩
        have HB7 := Lib.hid (show Below x6.heap.size x6 x7 by rw [← hx7]; exact hb7.alloc hb7.size _)
        have HQ7 := Lib.hid (show P2 25 x7 w7.heap.size (.bool s7) (.slice A7 n7 c7) by rw [← hx7]; exact P2.lit _ _ _ _)
        have HR7 := Lib.hid (show RN x7 s7 A7 n7 c7 (psV l) by rw [← hx7]; exact hr7.new ((Below.refl _ _).alloc (Nat.le_refl _) _))
        obtain ⟨b7, hb7e⟩ : ∃ b, w7.heap.size = b := ⟨_, rfl⟩
        rw [hb7e] at HQ7
        have hl7 : n7 ≤ 150000 := ps_rlen hr7
        have HQ67 := Lib.hid (HQ6.out.new HB7.out)
        have HR67 := Lib.hid (PIo.new HR6.out HB7.out)
        have HE7 := Lib.hid ((HB7.out.cell (World.block_lt_of_cell? x6 _ HE6.out)).trans HE6.out)
        have HW7 := Lib.hid (bt HBB.out (bt HB6.out HB7.out))
        have HEL7 := Lib.hid (HEL.out.new (bt HB6.out HB7.out))
        clear hr7 hb7 e1 HQ6 HR6 HB6 HB7 HE6 HEL HBB hl
        have HPS := Lib.hid (ps_back l)
        have hzc := ps_code l
        obtain ⟨V, hV⟩ : ∃ V, psV l = V := ⟨_, rfl⟩
        obtain ⟨z, hz⟩ : ∃ z, psC l = z := ⟨_, rfl⟩
        rw [hV] at HR7 HR67 HPS
        rw [hz] at HPS hzc ⊢
        obtain ⟨E, hE⟩ : ∃ E : ByteArray, ByteArray.mk l.toArray = E := ⟨_, rfl⟩
        rw [hE] at HE7
        have HEE := Lib.hid hE
        clear hV hz
        let S := fun w' : World => w'.cell? ⟨b6, 0, none⟩ = some (.bool s6) ∧ w'.cell? ⟨b6, 1, none⟩ = some (.slice A6 n6 c6) ∧ w'.cell? ⟨b7, 0, none⟩ = some (.bool s7) ∧ w'.cell? ⟨b7, 1, none⟩ = some (.slice A7 n7 c7) ∧ w'.cell? ⟨B, i, none⟩ = some (.string E) ∧ Below x7.heap.size x7 w'
        have HS : Hid (∀ w', Below x7.heap.size x7 w' → S w') := Lib.hid (fun w' hb => ⟨(HQ67.out.new hb).cells.1, (HQ67.out.new hb).cells.2, (HQ7.out.new hb).cells.1, (HQ7.out.new hb).cells.2, (hb.cell (World.block_lt_of_cell? x7 _ HE7.out)).trans HE7.out, hb⟩)
        have K1 : Hid (∀ w', S w' → Calls Try.prog 16 #[.agg #[.bool s6, .slice A6 n6 c6], .agg #[.bool s7, .slice A7 n7 c7]] w' fun e w'' => e = .returned (.bool true) ∧ S w'') :=
          Lib.hid (fun w' h => (equal_any V V s6 s7 A6 A7 n6 c6 n7 c7 w' (PIo.new HR67.out h.2.2.2.2.2) (HR7.out.new h.2.2.2.2.2) hl6 hl7).mono (fun e w'' ⟨he, hb⟩ => ⟨by rw [he, eqB_self], HS.out _ (bt h.2.2.2.2.2 hb)⟩))
        have K2 : Hid (∀ w', S w' → Calls Try.prog 17 #[.agg #[.bool s6, .slice A6 n6 c6]] w' fun e w'' => (∃ G : ByteArray, e = .returned (.string G) ∧ Hid (G = ByteArray.mk (decI V).toArray)) ∧ S w'') :=
          Lib.hid (fun w' h => (pstring_any V s6 A6 n6 c6 w' (PIo.new HR67.out h.2.2.2.2.2) hl6).mono (fun e w'' ⟨he, hb⟩ => ⟨⟨_, he, Lib.hid rfl⟩, HS.out _ (bt h.2.2.2.2.2 hb)⟩))
        have bR := HS.out _ (Below.refl x7.heap.size x7).drew
        rcases hzc with rfl | rfl | rfl
        · have HG2 := Lib.hid (show ByteArray.mk (decI V).toArray = E by rw [HPS.out rfl, HEE.out])
          have K3 : Hid (∀ w', S w' → Calls Try.prog 17 #[.agg #[.bool s6, .slice A6 n6 c6]] w' fun e w'' => e = .returned (.string E) ∧ S w'') :=
            Lib.hid (fun w' h => (K2.out w' h).mono (fun e w'' ⟨⟨G, he, hG⟩, hs⟩ => ⟨by rw [he, hG.out, HG2.out], hs⟩))
          clear K2 hE
          go_wp2_with fail
          clear hx7 hb7e
          go_region_held3 (fun w' => w'.cell? ⟨b6, 0, none⟩ = some (.bool s6) ∧ w'.cell? ⟨b6, 1, none⟩ = some (.slice A6 n6 c6) ∧ w'.cell? ⟨b7, 0, none⟩ = some (.bool s7) ∧ w'.cell? ⟨b7, 1, none⟩ = some (.slice A7 n7 c7) ∧ w'.cell? ⟨B, i, none⟩ = some (.string E) ∧ Below x7.heap.size x7 w') (first | assumption | exact bR | go_keep)
            (first | (go_at_call 16; refine (K1.out _ ?_).mono ?_; assumption; rintro e w8 ⟨rfl, hc8⟩) | (go_at_call 17; refine (K3.out _ ?_).mono ?_; assumption; rintro e w9 ⟨rfl, hc9⟩))
          all_goals
            rename_i hlast
            have HL8 := Lib.hid hlast.2.2.2.2.2
            clear hlast
            go_wp2
            go_roundw
            case rel => exact ⟨i + 1, by omega, by go_num, HEL7.out.new HL8.out, bt HW7.out HL8.out⟩
            case measure => simp [intOf]; omega
        · clear hE K2
          go_wp2_with fail
          clear hx7 hb7e
          refine wp_region_held_drew (S := fun w' : World => w'.cell? ⟨b6, 0, none⟩ = some (.bool s6) ∧ w'.cell? ⟨b6, 1, none⟩ = some (.slice A6 n6 c6) ∧ w'.cell? ⟨b7, 0, none⟩ = some (.bool s7) ∧ w'.cell? ⟨b7, 1, none⟩ = some (.slice A7 n7 c7) ∧ w'.cell? ⟨B, i, none⟩ = some (.string E) ∧ Below x7.heap.size x7 w') (by kernel_rfl) ?_ (fun hHeld => ?_)
          · exact bR
          refine wpAnyH_take (i := 0) (v := ?_) rfl (by kernel_rfl) (by kernel_rfl) (by kernel_rfl) (fun _ _ _ h => h) (Or.inl ⟨by kernel_rfl, ?_⟩) (by assumption) ?_
          rotate_left
          · intro w hSw
            (try dsimp only at hSw)
            go_simp
            all_goals (with_reducible rfl)
          try simp only [Act.put, List.getElem_toArray, List.getElem_cons_zero, List.getElem_cons_succ, List.setIfInBounds_toArray, List.set_cons_zero, List.set_cons_succ]
          refine wpAnyH_take (i := 1) (v := ?_) rfl (by kernel_rfl) (by kernel_rfl) (by kernel_rfl) (fun _ _ _ h => h) (Or.inl ⟨by kernel_rfl, ?_⟩) (by assumption) ?_
          rotate_left
          · intro w hSw
            (try dsimp only at hSw)
            go_simp
            all_goals (with_reducible rfl)
          try simp only [Act.put, List.getElem_toArray, List.getElem_cons_zero, List.getElem_cons_succ, List.setIfInBounds_toArray, List.set_cons_zero, List.set_cons_succ]
          refine wpAnyH_take (i := 2) (v := ?_) rfl (by kernel_rfl) (by kernel_rfl) (by kernel_rfl) (fun _ _ _ h => h) (Or.inl ⟨by kernel_rfl, ?_⟩) (by assumption) ?_
          rotate_left
          · intro w hSw
            (try dsimp only at hSw)
            go_simp
            all_goals (with_reducible rfl)
          try simp only [Act.put, List.getElem_toArray, List.getElem_cons_zero, List.getElem_cons_succ, List.setIfInBounds_toArray, List.set_cons_zero, List.set_cons_succ]
          refine wpAnyH_take (i := 3) (v := ?_) rfl (by kernel_rfl) (by kernel_rfl) (by kernel_rfl) (fun _ _ _ h => h) (Or.inl ⟨by kernel_rfl, ?_⟩) (by assumption) ?_
          rotate_left
          · intro w hSw
            (try dsimp only at hSw)
            go_simp
            all_goals (with_reducible rfl)
          try simp only [Act.put, List.getElem_toArray, List.getElem_cons_zero, List.getElem_cons_succ, List.setIfInBounds_toArray, List.set_cons_zero, List.set_cons_succ]
          refine wpAnyH_take (i := 4) (v := ?_) rfl (by kernel_rfl) (by kernel_rfl) (by kernel_rfl) (fun _ _ _ h => h) (Or.inl ⟨by kernel_rfl, ?_⟩) (by assumption) ?_
          rotate_left
          · intro w hSw
            (try dsimp only at hSw)
            go_simp
            all_goals (with_reducible rfl)
          try simp only [Act.put, List.getElem_toArray, List.getElem_cons_zero, List.getElem_cons_succ, List.setIfInBounds_toArray, List.set_cons_zero, List.set_cons_succ]
          refine wpAnyH_take (i := 5) (v := ?_) rfl (by kernel_rfl) (by kernel_rfl) (by kernel_rfl) (fun _ _ _ h => h) (Or.inl ⟨by kernel_rfl, ?_⟩) (by assumption) ?_
          rotate_left
          · intro w hSw
            (try dsimp only at hSw)
            go_simp
            all_goals (with_reducible rfl)
          try simp only [Act.put, List.getElem_toArray, List.getElem_cons_zero, List.getElem_cons_succ, List.setIfInBounds_toArray, List.set_cons_zero, List.set_cons_succ]
          refine wpAnyH_ready (rs := [6]) (by kernel_rfl) (by simp) ?_
          refine AllReadyH.cons rfl (fun K hK => ?_) AllReadyH.nil
          go_simp
          go_at_call 16
          refine (K1.out _ ?_).mono ?_
          assumption
          rintro e w8 ⟨rfl, hc8⟩
          go_wp2_with fail
          refine hK.out _ _ hc8 (fun hHeld2 => ?_)
          clear hK K
          try simp only [Act.put, List.getElem_toArray, List.getElem_cons_zero, List.getElem_cons_succ, List.setIfInBounds_toArray, List.set_cons_zero, List.set_cons_succ]
          refine wpAnyH_take (i := 7) (v := ?_) rfl (by kernel_rfl) (by kernel_rfl) (by kernel_rfl) (fun _ _ _ h => h) (Or.inl ⟨by kernel_rfl, ?_⟩) (by assumption) ?_
          rotate_left
          · intro w hSw
            (try dsimp only at hSw)
            go_simp
            all_goals (with_reducible rfl)
          try simp only [Act.put, List.getElem_toArray, List.getElem_cons_zero, List.getElem_cons_succ, List.setIfInBounds_toArray, List.set_cons_zero, List.set_cons_succ]
          refine wpAnyH_take (i := 8) (v := ?_) rfl (by kernel_rfl) (by kernel_rfl) (by kernel_rfl) (fun _ _ _ h => h) (Or.inl ⟨by kernel_rfl, ?_⟩) (by assumption) ?_
          rotate_left
          · intro w hSw
            (try dsimp only at hSw)
            go_simp
            all_goals (with_reducible rfl)
          try simp only [Act.put, List.getElem_toArray, List.getElem_cons_zero, List.getElem_cons_succ, List.setIfInBounds_toArray, List.set_cons_zero, List.set_cons_succ]
          refine wpAnyH_take (i := 9) (v := ?_) rfl (by kernel_rfl) (by kernel_rfl) (by kernel_rfl) (fun _ _ _ h => h) (Or.inl ⟨by kernel_rfl, ?_⟩) (by assumption) ?_
          rotate_left
          · intro w hSw
            (try dsimp only at hSw)
            go_simp
            all_goals (with_reducible rfl)
          try simp only [Act.put, List.getElem_toArray, List.getElem_cons_zero, List.getElem_cons_succ, List.setIfInBounds_toArray, List.set_cons_zero, List.set_cons_succ]
          refine wpAnyH_take (i := 10) (v := ?_) rfl (by kernel_rfl) (by kernel_rfl) (by kernel_rfl) (fun _ _ _ h => h) (Or.inl ⟨by kernel_rfl, ?_⟩) (by assumption) ?_
          rotate_left
          · intro w hSw
            (try dsimp only at hSw)
            go_simp
            all_goals (with_reducible rfl)
          try simp only [Act.put, List.getElem_toArray, List.getElem_cons_zero, List.getElem_cons_succ, List.setIfInBounds_toArray, List.set_cons_zero, List.set_cons_succ]
          refine wpAnyH_take (i := 11) (v := ?_) rfl (by kernel_rfl) (by kernel_rfl) (by kernel_rfl) (fun _ _ _ h => h) (Or.inl ⟨by kernel_rfl, ?_⟩) (by assumption) ?_
          rotate_left
          · intro w hSw
            (try dsimp only at hSw)
            go_simp
            all_goals (with_reducible rfl)
          try simp only [Act.put, List.getElem_toArray, List.getElem_cons_zero, List.getElem_cons_succ, List.setIfInBounds_toArray, List.set_cons_zero, List.set_cons_succ]
          refine wpAnyH_take (i := 12) (v := ?_) rfl (by kernel_rfl) (by kernel_rfl) (by kernel_rfl) (fun _ _ _ h => h) (Or.inl ⟨by kernel_rfl, ?_⟩) (by assumption) ?_
          rotate_left
          · intro w hSw
            (try dsimp only at hSw)
            go_simp
            all_goals (with_reducible rfl)
          try simp only [Act.put, List.getElem_toArray, List.getElem_cons_zero, List.getElem_cons_succ, List.setIfInBounds_toArray, List.set_cons_zero, List.set_cons_succ]
          refine wpAnyH_take (i := 13) (v := undef) rfl (by kernel_rfl) (by kernel_rfl) (by kernel_rfl) (fun _ _ _ h => h) (Or.inr ⟨by kernel_rfl, rfl⟩) (by assumption) ?_
          try simp only [Act.put, List.getElem_toArray, List.getElem_cons_zero, List.getElem_cons_succ, List.setIfInBounds_toArray, List.set_cons_zero, List.set_cons_succ]
          refine wpAnyH_take (i := 14) (v := undef) rfl (by kernel_rfl) (by kernel_rfl) (by kernel_rfl) (fun _ _ _ h => h) (Or.inr ⟨by kernel_rfl, rfl⟩) (by assumption) ?_
          try simp only [Act.put, List.getElem_toArray, List.getElem_cons_zero, List.getElem_cons_succ, List.setIfInBounds_toArray, List.set_cons_zero, List.set_cons_succ]
          refine wpAnyH_take (i := 15) (v := undef) rfl (by kernel_rfl) (by kernel_rfl) (by kernel_rfl) (fun _ _ _ h => h) (Or.inr ⟨by kernel_rfl, rfl⟩) (by assumption) ?_
          try simp only [Act.put, List.getElem_toArray, List.getElem_cons_zero, List.getElem_cons_succ, List.setIfInBounds_toArray, List.set_cons_zero, List.set_cons_succ]
          refine wpAnyH_take (i := 16) (v := undef) rfl (by kernel_rfl) (by kernel_rfl) (by kernel_rfl) (fun _ _ _ h => h) (Or.inr ⟨by kernel_rfl, rfl⟩) (by assumption) ?_
          try simp only [Act.put, List.getElem_toArray, List.getElem_cons_zero, List.getElem_cons_succ, List.setIfInBounds_toArray, List.set_cons_zero, List.set_cons_succ]
          refine wpAnyH_take (i := 17) (v := undef) rfl (by kernel_rfl) (by kernel_rfl) (by kernel_rfl) (fun _ _ _ h => h) (Or.inr ⟨by kernel_rfl, rfl⟩) (by assumption) ?_
          try simp only [Act.put, List.getElem_toArray, List.getElem_cons_zero, List.getElem_cons_succ, List.setIfInBounds_toArray, List.set_cons_zero, List.set_cons_succ]
          refine wpAnyH_take (i := 18) (v := undef) rfl (by kernel_rfl) (by kernel_rfl) (by kernel_rfl) (fun _ _ _ h => h) (Or.inr ⟨by kernel_rfl, rfl⟩) (by assumption) ?_
          try simp only [Act.put, List.getElem_toArray, List.getElem_cons_zero, List.getElem_cons_succ, List.setIfInBounds_toArray, List.set_cons_zero, List.set_cons_succ]
          refine wpAnyH_take (i := 19) (v := undef) rfl (by kernel_rfl) (by kernel_rfl) (by kernel_rfl) (fun _ _ _ h => h) (Or.inr ⟨by kernel_rfl, rfl⟩) (by assumption) ?_
          try simp only [Act.put, List.getElem_toArray, List.getElem_cons_zero, List.getElem_cons_succ, List.setIfInBounds_toArray, List.set_cons_zero, List.set_cons_succ]
          refine wpAnyH_take (i := 20) (v := ?_) rfl (by kernel_rfl) (by kernel_rfl) (by kernel_rfl) (fun _ _ _ h => h) (Or.inl ⟨by kernel_rfl, ?_⟩) (by assumption) ?_
          rotate_left
          · intro w hSw
            (try dsimp only at hSw)
            go_simp
            all_goals (with_reducible rfl)
          try simp only [Act.put, List.getElem_toArray, List.getElem_cons_zero, List.getElem_cons_succ, List.setIfInBounds_toArray, List.set_cons_zero, List.set_cons_succ]
          refine wpAnyH_take (i := 21) (v := ?_) rfl (by kernel_rfl) (by kernel_rfl) (by kernel_rfl) (fun _ _ _ h => h) (Or.inl ⟨by kernel_rfl, ?_⟩) (by assumption) ?_
          rotate_left
          · intro w hSw
            (try dsimp only at hSw)
            go_simp
            all_goals (with_reducible rfl)
          try simp only [Act.put, List.getElem_toArray, List.getElem_cons_zero, List.getElem_cons_succ, List.setIfInBounds_toArray, List.set_cons_zero, List.set_cons_succ]
          refine wpAnyH_done (by kernel_rfl) ?_ _
          have HL8 := Lib.hid hc8.2.2.2.2.2
          clear hc8 hHeld hHeld2
          go_wp2
          go_roundw
          case rel => exact ⟨i + 1, by omega, by go_num, HEL7.out.new HL8.out, bt HW7.out HL8.out⟩
          case measure => simp [intOf]; omega
        · clear hE K2
          go_wp2_with fail
          clear hx7 hb7e
          refine wp_region_held_drew (S := fun w' : World => w'.cell? ⟨b6, 0, none⟩ = some (.bool s6) ∧ w'.cell? ⟨b6, 1, none⟩ = some (.slice A6 n6 c6) ∧ w'.cell? ⟨b7, 0, none⟩ = some (.bool s7) ∧ w'.cell? ⟨b7, 1, none⟩ = some (.slice A7 n7 c7) ∧ w'.cell? ⟨B, i, none⟩ = some (.string E) ∧ Below x7.heap.size x7 w') (by kernel_rfl) ?_ (fun hHeld => ?_)
          · exact bR
          refine wpAnyH_take (i := 0) (v := ?_) rfl (by kernel_rfl) (by kernel_rfl) (by kernel_rfl) (fun _ _ _ h => h) (Or.inl ⟨by kernel_rfl, ?_⟩) (by assumption) ?_
          rotate_left
          · intro w hSw
            (try dsimp only at hSw)
            go_simp
            all_goals (with_reducible rfl)
          try simp only [Act.put, List.getElem_toArray, List.getElem_cons_zero, List.getElem_cons_succ, List.setIfInBounds_toArray, List.set_cons_zero, List.set_cons_succ]
          refine wpAnyH_take (i := 1) (v := ?_) rfl (by kernel_rfl) (by kernel_rfl) (by kernel_rfl) (fun _ _ _ h => h) (Or.inl ⟨by kernel_rfl, ?_⟩) (by assumption) ?_
          rotate_left
          · intro w hSw
            (try dsimp only at hSw)
            go_simp
            all_goals (with_reducible rfl)
          try simp only [Act.put, List.getElem_toArray, List.getElem_cons_zero, List.getElem_cons_succ, List.setIfInBounds_toArray, List.set_cons_zero, List.set_cons_succ]
          refine wpAnyH_take (i := 2) (v := ?_) rfl (by kernel_rfl) (by kernel_rfl) (by kernel_rfl) (fun _ _ _ h => h) (Or.inl ⟨by kernel_rfl, ?_⟩) (by assumption) ?_
          rotate_left
          · intro w hSw
            (try dsimp only at hSw)
            go_simp
            all_goals (with_reducible rfl)
          try simp only [Act.put, List.getElem_toArray, List.getElem_cons_zero, List.getElem_cons_succ, List.setIfInBounds_toArray, List.set_cons_zero, List.set_cons_succ]
          refine wpAnyH_take (i := 3) (v := ?_) rfl (by kernel_rfl) (by kernel_rfl) (by kernel_rfl) (fun _ _ _ h => h) (Or.inl ⟨by kernel_rfl, ?_⟩) (by assumption) ?_
          rotate_left
          · intro w hSw
            (try dsimp only at hSw)
            go_simp
            all_goals (with_reducible rfl)
          try simp only [Act.put, List.getElem_toArray, List.getElem_cons_zero, List.getElem_cons_succ, List.setIfInBounds_toArray, List.set_cons_zero, List.set_cons_succ]
          refine wpAnyH_take (i := 4) (v := ?_) rfl (by kernel_rfl) (by kernel_rfl) (by kernel_rfl) (fun _ _ _ h => h) (Or.inl ⟨by kernel_rfl, ?_⟩) (by assumption) ?_
          rotate_left
          · intro w hSw
            (try dsimp only at hSw)
            go_simp
            all_goals (with_reducible rfl)
          try simp only [Act.put, List.getElem_toArray, List.getElem_cons_zero, List.getElem_cons_succ, List.setIfInBounds_toArray, List.set_cons_zero, List.set_cons_succ]
          refine wpAnyH_take (i := 5) (v := ?_) rfl (by kernel_rfl) (by kernel_rfl) (by kernel_rfl) (fun _ _ _ h => h) (Or.inl ⟨by kernel_rfl, ?_⟩) (by assumption) ?_
          rotate_left
          · intro w hSw
            (try dsimp only at hSw)
            go_simp
            all_goals (with_reducible rfl)
          try simp only [Act.put, List.getElem_toArray, List.getElem_cons_zero, List.getElem_cons_succ, List.setIfInBounds_toArray, List.set_cons_zero, List.set_cons_succ]
          refine wpAnyH_ready (rs := [6]) (by kernel_rfl) (by simp) ?_
          refine AllReadyH.cons rfl (fun K hK => ?_) AllReadyH.nil
          go_simp
          go_at_call 16
          refine (K1.out _ ?_).mono ?_
          assumption
          rintro e w8 ⟨rfl, hc8⟩
          go_wp2_with fail
          refine hK.out _ _ hc8 (fun hHeld2 => ?_)
          clear hK K
          try simp only [Act.put, List.getElem_toArray, List.getElem_cons_zero, List.getElem_cons_succ, List.setIfInBounds_toArray, List.set_cons_zero, List.set_cons_succ]
          refine wpAnyH_take (i := 7) (v := ?_) rfl (by kernel_rfl) (by kernel_rfl) (by kernel_rfl) (fun _ _ _ h => h) (Or.inl ⟨by kernel_rfl, ?_⟩) (by assumption) ?_
          rotate_left
          · intro w hSw
            (try dsimp only at hSw)
            go_simp
            all_goals (with_reducible rfl)
          try simp only [Act.put, List.getElem_toArray, List.getElem_cons_zero, List.getElem_cons_succ, List.setIfInBounds_toArray, List.set_cons_zero, List.set_cons_succ]
          refine wpAnyH_take (i := 8) (v := ?_) rfl (by kernel_rfl) (by kernel_rfl) (by kernel_rfl) (fun _ _ _ h => h) (Or.inl ⟨by kernel_rfl, ?_⟩) (by assumption) ?_
          rotate_left
          · intro w hSw
            (try dsimp only at hSw)
            go_simp
            all_goals (with_reducible rfl)
          try simp only [Act.put, List.getElem_toArray, List.getElem_cons_zero, List.getElem_cons_succ, List.setIfInBounds_toArray, List.set_cons_zero, List.set_cons_succ]
          refine wpAnyH_take (i := 9) (v := ?_) rfl (by kernel_rfl) (by kernel_rfl) (by kernel_rfl) (fun _ _ _ h => h) (Or.inl ⟨by kernel_rfl, ?_⟩) (by assumption) ?_
          rotate_left
          · intro w hSw
            (try dsimp only at hSw)
            go_simp
            all_goals (with_reducible rfl)
          try simp only [Act.put, List.getElem_toArray, List.getElem_cons_zero, List.getElem_cons_succ, List.setIfInBounds_toArray, List.set_cons_zero, List.set_cons_succ]
          refine wpAnyH_take (i := 10) (v := ?_) rfl (by kernel_rfl) (by kernel_rfl) (by kernel_rfl) (fun _ _ _ h => h) (Or.inl ⟨by kernel_rfl, ?_⟩) (by assumption) ?_
          rotate_left
          · intro w hSw
            (try dsimp only at hSw)
            go_simp
            all_goals (with_reducible rfl)
          try simp only [Act.put, List.getElem_toArray, List.getElem_cons_zero, List.getElem_cons_succ, List.setIfInBounds_toArray, List.set_cons_zero, List.set_cons_succ]
          refine wpAnyH_take (i := 11) (v := ?_) rfl (by kernel_rfl) (by kernel_rfl) (by kernel_rfl) (fun _ _ _ h => h) (Or.inl ⟨by kernel_rfl, ?_⟩) (by assumption) ?_
          rotate_left
          · intro w hSw
            (try dsimp only at hSw)
            go_simp
            all_goals (with_reducible rfl)
          try simp only [Act.put, List.getElem_toArray, List.getElem_cons_zero, List.getElem_cons_succ, List.setIfInBounds_toArray, List.set_cons_zero, List.set_cons_succ]
          refine wpAnyH_take (i := 12) (v := ?_) rfl (by kernel_rfl) (by kernel_rfl) (by kernel_rfl) (fun _ _ _ h => h) (Or.inl ⟨by kernel_rfl, ?_⟩) (by assumption) ?_
          rotate_left
          · intro w hSw
            (try dsimp only at hSw)
            go_simp
            all_goals (with_reducible rfl)
          try simp only [Act.put, List.getElem_toArray, List.getElem_cons_zero, List.getElem_cons_succ, List.setIfInBounds_toArray, List.set_cons_zero, List.set_cons_succ]
          refine wpAnyH_take (i := 13) (v := undef) rfl (by kernel_rfl) (by kernel_rfl) (by kernel_rfl) (fun _ _ _ h => h) (Or.inr ⟨by kernel_rfl, rfl⟩) (by assumption) ?_
          try simp only [Act.put, List.getElem_toArray, List.getElem_cons_zero, List.getElem_cons_succ, List.setIfInBounds_toArray, List.set_cons_zero, List.set_cons_succ]
          refine wpAnyH_take (i := 14) (v := undef) rfl (by kernel_rfl) (by kernel_rfl) (by kernel_rfl) (fun _ _ _ h => h) (Or.inr ⟨by kernel_rfl, rfl⟩) (by assumption) ?_
          try simp only [Act.put, List.getElem_toArray, List.getElem_cons_zero, List.getElem_cons_succ, List.setIfInBounds_toArray, List.set_cons_zero, List.set_cons_succ]
          refine wpAnyH_take (i := 15) (v := undef) rfl (by kernel_rfl) (by kernel_rfl) (by kernel_rfl) (fun _ _ _ h => h) (Or.inr ⟨by kernel_rfl, rfl⟩) (by assumption) ?_
          try simp only [Act.put, List.getElem_toArray, List.getElem_cons_zero, List.getElem_cons_succ, List.setIfInBounds_toArray, List.set_cons_zero, List.set_cons_succ]
          refine wpAnyH_take (i := 16) (v := undef) rfl (by kernel_rfl) (by kernel_rfl) (by kernel_rfl) (fun _ _ _ h => h) (Or.inr ⟨by kernel_rfl, rfl⟩) (by assumption) ?_
          try simp only [Act.put, List.getElem_toArray, List.getElem_cons_zero, List.getElem_cons_succ, List.setIfInBounds_toArray, List.set_cons_zero, List.set_cons_succ]
          refine wpAnyH_take (i := 17) (v := undef) rfl (by kernel_rfl) (by kernel_rfl) (by kernel_rfl) (fun _ _ _ h => h) (Or.inr ⟨by kernel_rfl, rfl⟩) (by assumption) ?_
          try simp only [Act.put, List.getElem_toArray, List.getElem_cons_zero, List.getElem_cons_succ, List.setIfInBounds_toArray, List.set_cons_zero, List.set_cons_succ]
          refine wpAnyH_take (i := 18) (v := undef) rfl (by kernel_rfl) (by kernel_rfl) (by kernel_rfl) (fun _ _ _ h => h) (Or.inr ⟨by kernel_rfl, rfl⟩) (by assumption) ?_
          try simp only [Act.put, List.getElem_toArray, List.getElem_cons_zero, List.getElem_cons_succ, List.setIfInBounds_toArray, List.set_cons_zero, List.set_cons_succ]
          refine wpAnyH_take (i := 19) (v := undef) rfl (by kernel_rfl) (by kernel_rfl) (by kernel_rfl) (fun _ _ _ h => h) (Or.inr ⟨by kernel_rfl, rfl⟩) (by assumption) ?_
          try simp only [Act.put, List.getElem_toArray, List.getElem_cons_zero, List.getElem_cons_succ, List.setIfInBounds_toArray, List.set_cons_zero, List.set_cons_succ]
          refine wpAnyH_take (i := 20) (v := ?_) rfl (by kernel_rfl) (by kernel_rfl) (by kernel_rfl) (fun _ _ _ h => h) (Or.inl ⟨by kernel_rfl, ?_⟩) (by assumption) ?_
          rotate_left
          · intro w hSw
            (try dsimp only at hSw)
            go_simp
            all_goals (with_reducible rfl)
          try simp only [Act.put, List.getElem_toArray, List.getElem_cons_zero, List.getElem_cons_succ, List.setIfInBounds_toArray, List.set_cons_zero, List.set_cons_succ]
          refine wpAnyH_take (i := 21) (v := ?_) rfl (by kernel_rfl) (by kernel_rfl) (by kernel_rfl) (fun _ _ _ h => h) (Or.inl ⟨by kernel_rfl, ?_⟩) (by assumption) ?_
          rotate_left
          · intro w hSw
            (try dsimp only at hSw)
            go_simp
            all_goals (with_reducible rfl)
          try simp only [Act.put, List.getElem_toArray, List.getElem_cons_zero, List.getElem_cons_succ, List.setIfInBounds_toArray, List.set_cons_zero, List.set_cons_succ]
          refine wpAnyH_done (by kernel_rfl) ?_ _
          have HL8 := Lib.hid hc8.2.2.2.2.2
          clear hc8 hHeld hHeld2
          go_wp2
          go_roundw
          case rel => exact ⟨i + 1, by omega, by go_num, HEL7.out.new HL8.out, bt HW7.out HL8.out⟩
          case measure => simp [intOf]; omega
      · obtain rfl : i = 5 := by omega
        go_wp2_with fail
        refine (lives_any wr).mono ?_
        rintro e w5 ⟨rfl, hb5⟩
        have HB5 := Lib.hid (bt HBB.out hb5)
        clear hb5
        go_wp2
        go_ret
        exact ⟨rfl, HB5.out⟩
theorem wideTexts_law (a0 : ByteArray) (a1 : Option Addr) (len1 cap1 : Nat) (z1 : List Int) (a2 a3 : Int) (w : World) (w0 : a0.size ≤ maxLen) (w1 : RowI .i64 w a1 len1 cap1 z1) (w2 : (Lit.int .i64 a2).wf = true) (w3 : (Lit.int .u8 a3).wf = true) :
    Calls Try.prog 3 #[.string a0, .slice a1 len1 cap1, .int .i64 a2, .int .u8 a3] w fun e w' => e = .returned (.bool true) ∧ Below w.heap.size w w' := by
  obtain ⟨ls, h1, h2, h3, h4⟩ := w1.open_
  exact wideTexts_walk a0 ls a1 len1 cap1 a2 a3 w w0 ⟨h4, by rw [h1]; exact h2, h3⟩ w2 w3
end Go.Proofs.Ytpcliampffeknaa
