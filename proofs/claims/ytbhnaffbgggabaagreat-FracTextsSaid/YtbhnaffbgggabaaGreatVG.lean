/- The walk of the law FracTexts. -/
import Derived.Test.YtbhnaffbgggabaaGreatAD
import Derived.Test.YtbhnaffbgggabaaGreatAF
import Derived.Test.YtbhnaffbgggabaaGreatAG
import Derived.Laws.BytesArg
import Derived.Laws.Concat
import Derived.Lib.ConvBytes
import Derived.Deep.DeepCutAuto
namespace Go.Proofs.YtbhnaffbgggabaaGreat
open Go.RowKit
attribute [local go_sem ↓] Go.wp_at_zero Go.wp_at_succ
set_option linter.unusedVariables false
set_option linter.unusedSimpArgs false
/-- A row of bytes that a conversion has made: its cells, and that none of the first is frozen. -/
def Fresh (w : World) (b n : Nat) (xs : List Int) : Prop := ∃ cur e m, w.heap[b]? = some (.cells cur e (m, m + 1)) ∧ n ≤ m ∧ m = cur.size ∧ xs.length = n ∧ ∀ j, j < n → cur[j]? = some (.int .u8 (xs.getD j 0))
theorem Fresh.cell {w : World} {b n : Nat} {xs : List Int} (h : Fresh w b n xs) (j : Nat) (hj : j < n) : w.cell? ⟨b, j, none⟩ = some (.int .u8 (xs.getD j 0)) := by
 obtain ⟨cur, e, m, h1, h2, h3, h4, h5⟩ := h
 simp only [World.cell?, h1]
 exact h5 j hj
theorem Fresh.free {w : World} {b n : Nat} {xs : List Int} (h : Fresh w b n xs) (j : Nat) (hj : j < n) : w.frozen? ⟨b, j, none⟩ = false := by
 obtain ⟨cur, e, m, h1, h2, h3, h4, h5⟩ := h
 simp only [World.frozen?, h1, Bool.and_eq_false_iff, decide_eq_false_iff_not]
 exact .inl (by omega)
theorem Fresh.lt {w : World} {b n : Nat} {xs : List Int} (h : Fresh w b n xs) : b < w.heap.size := by
 obtain ⟨cur, e, m, h1, _⟩ := h
 exact (Array.getElem?_eq_some_iff.1 h1).1
theorem Fresh.new {w w' : World} {b n : Nat} {xs : List Int} (h : Fresh w b n xs) (hb : Below w.heap.size w w') : Fresh w' b n xs := by
 have hl := h.lt
 obtain ⟨cur, e, m, h1, h2⟩ := h
 exact ⟨cur, e, m, (hb.block b hl).trans h1, h2⟩
theorem bw_below (w : World) (e : TypeId) (s : ByteArray) : Below w.heap.size w (Lib.bytesWorld w e s) :=
 ⟨by simp [Lib.bytesWorld, World.freeze, World.alloc, World.drew, -World.alloc_eq, -World.drew_eq], by simp [Lib.bytesWorld, World.freeze, World.alloc, World.drew, -World.alloc_eq, -World.drew_eq], by simp [Lib.bytesWorld, World.freeze, World.alloc, World.drew, -World.alloc_eq, -World.drew_eq], by rw [Lib.bytesWorld_size]; omega, fun k hk => Lib.bytesWorld_at_old w e s k hk⟩
theorem Fresh.made (w : World) (e : TypeId) (s : ByteArray) : Fresh (Lib.bytesWorld w e s) w.heap.size s.size (bI s.data.toList) := by
 have hs : s.data.toList.length = s.size := by cases s; exact Array.length_toList
 refine ⟨_, _, _, Lib.bytesWorld_at_new w e s, ?_, rfl, by rw [bI_length]; exact hs, fun j hj => ?_⟩
 ·unfold Lib.bytesCells
  rw [Array.size_append, Array.size_map]
  exact Nat.le_add_right _ _
 ·have h1 := Lib.bytesWorld_cell w e s j hj
  simp only [World.cell?, Lib.bytesWorld_at_new] at h1
  have h1' : (Lib.bytesCells w e s)[j]? = some (.int .u8 ((s.data.toList.getD j 0).toNat : Int)) := h1
  rw [h1']
  have hj' : j < s.data.toList.length := by omega
  have e1 : (bI s.data.toList).getD j 0 = ((s.data.toList.getD j 0).toNat : Int) := by
   unfold bI
   simp only [List.getD_eq_getElem?_getD, List.getElem?_map, List.getElem?_eq_getElem hj']
   rfl
  rw [e1]
theorem Fresh.set {w : World} {b n k : Nat} {xs : List Int} {v : Int} (h : Fresh w b n xs) (hk : k < n) : Fresh (w.setCell ⟨b, k, none⟩ (.int .u8 v)) b n (xs.set k v) := by
 obtain ⟨cur, e, m, h1, h2, h3, h4, h5⟩ := h
 refine ⟨cur.setIfInBounds k (.int .u8 v), e, m, by simp [World.setCell, Array.getElem?_modify, h1], h2, by rw [Array.size_setIfInBounds]; exact h3, by rw [List.length_set]; exact h4, fun j hj => ?_⟩
 rw [Array.getElem?_setIfInBounds]
 by_cases e1 : k = j
 ·subst e1
  rw [if_pos rfl, if_pos (by omega)]
  simp [List.getD_eq_getElem?_getD, List.getElem?_set, h4, hk]
 ·rw [if_neg e1, h5 j hj]
  simp [List.getD_eq_getElem?_getD, List.getElem?_set, e1]
theorem str_list (s : ByteArray) : ∃ l : List UInt8, s = ⟨l.toArray⟩ ∧ l.length = s.size := ⟨s.data.toList, by cases s; simp, by cases s; exact Array.length_toList⟩
theorem cat_mk (a b : List UInt8) : ByteArray.mk a.toArray ++ ByteArray.mk b.toArray = ByteArray.mk (a ++ b).toArray := by
 apply ByteArray.ext
 simp
set_option maxRecDepth 100000 in
theorem fresh_text {w : World} {b n c : Nat} {xs : List Int} (h : Fresh w b n xs) (k : Nat) (hk : k ≤ n) : (convert 72 9 (.slice (some ⟨b, 0, none⟩) k c)).run Tryz.prog w = .ok (.string (strOfNums (xs.take k))) w := by
 refine run_convert_bytes_arg w 72 5 Tryz.underlying72 Tryz.underlying5 b 0 k c (xs.take k) ?_ ?_ 9 Tryz.underlying9
 ·obtain ⟨_, _, _, _, _, _, h4, _⟩ := h
  rw [List.length_take]; omega
 ·intro i hi
  rw [Nat.zero_add, h.cell i (by omega)]
  simp [List.getD_eq_getElem?_getD, List.getElem?_take, hi]
set_option maxRecDepth 100000 in
theorem fresh_whole {w : World} {b n c : Nat} {xs : List Int} (h : Fresh w b n xs) : (convert 72 9 (.slice (some ⟨b, 0, none⟩) n c)).run Tryz.prog w = .ok (.string (strOfNums xs)) w := by
 have h1 := fresh_text (c := c) h n (Nat.le_refl _)
 have h4 : xs.length = n := by
  obtain ⟨_, _, _, _, _, _, h4, _⟩ := h
  exact h4
 rwa [List.take_of_length_le (by omega)] at h1
theorem fracT_pos (p q : Int) : 1 ≤ (fracT p q).length := by
 have h : 1 ≤ (decI p).length := by
  unfold decI
  split
  ·simp
  ·exact List.length_pos_iff.2 (dec_ne _)
 unfold fracT
 split
 ·exact h
 ·simp; omega
set_option maxRecDepth 100000 in
set_option maxHeartbeats 6400000 in
theorem fracTexts_walk (A : Option Addr) (ln c : Nat) (xs : List Int) (s : ByteArray) (at_ by_ : Int) (w : World) (hg : Got w (.slice A ln c) xs) (hs : s.size ≤ maxLen) (ha : (Lit.int .i64 at_).wf = true) (hb : (Lit.int .u8 by_).wf = true) :
  Calls Tryz.prog 8 #[.slice A ln c, .string s, .int .i64 at_, .int .u8 by_] w fun e w' => e = .returned (.bool true) ∧ Below w.heap.size w w' := by
 have HG := hJ hg
 have HSM := hJ hs
 have HAW := hJ ha
 obtain ⟨ha1, ha2⟩ : -9223372036854775808 ≤ at_ ∧ at_ ≤ 9223372036854775807 := by simpa [Lit.wf, IntKind.min, IntKind.max, IntKind.signed, IntKind.bits] using ha
 obtain ⟨hc1, hc2⟩ : 0 ≤ by_ ∧ by_ ≤ 255 := by simpa [Lit.wf, IntKind.min, IntKind.max, IntKind.signed, IntKind.bits] using hb
 clear hg hs ha hb
 go_enter Tryz.func8, Tryz.ntmps8
 go_wp2_with fail
 refine (r4frac_any A ln c xs 0 w HG.out (by decide) (by decide)).mono ?_
 rintro e w1 ⟨p11, q11, s11, A11, n11, c11, t11, B11, m11, d11, rfl, hr11, hs11, hf11, hb⟩
 have HB1 := hJ hb
 have HR1hr11 := hJ hr11
 have HR1hs11 := hJ hs11
 clear hb hr11 hs11
 have HFR11 := hJ hf11
 clear hf11
 obtain ⟨x2, hx2⟩ := nmz (w1.alloc (.cells #[.bool s11, .slice A11 n11 c11, .bool t11, .slice B11 m11 d11] 41))
 have HB2 := hJ (show Below w1.heap.size w1 x2 by rw [← hx2]; exact ((Below.refl _ _).alloc (Nat.le_refl _) _))
 have HQ2x0 := hJ (show BX 41 x2 w1.heap.size #[.bool s11, .slice A11 n11 c11, .bool t11, .slice B11 m11 d11] by rw [← hx2]; exact (BX.at rfl))
 have HG2x0 := hJ (show w1.heap.size ≤ w1.heap.size by omega)
 have HL2x0 := hJ (show w1.heap.size < x2.heap.size from HQ2x0.out.lt)
 obtain ⟨cl3, cl4, cl5, cl6⟩ := HQ2x0.out.c4 0 1 2 3 rfl rfl rfl rfl
 obtain ⟨TT, hTT⟩ := nmz (fracT p11 q11)
 have HT := hJ hTT
 have HFQ := hJ (show fqP TT = p11 ∧ fqQ TT = q11 ∧ fqC TT = 0 by rw [← hTT]; exact fq_text HFR11.out.1)
 have HTL := hJ (show TT.length ≤ 10001 by rw [← hTT]; exact fracT_len HFR11.out.1.2.1 HFR11.out.1.2.2)
 have HTP := hJ (show 1 ≤ TT.length by rw [← hTT]; exact fracT_pos p11 q11)
 clear hTT
 have HR1hr11w2 := hJ (RNo.new HR1hr11.out HB2.out)
 have HR1hs11w2 := hJ (RNo.new HR1hs11.out HB2.out)
 go_wp2_with fail
 clear hx2 cl3 cl4 cl5 cl6
 refine (r4text_any p11 q11 s11 A11 n11 c11 t11 B11 m11 d11 x2 HR1hr11w2.out HR1hs11w2.out HFR11.out.1.2.1 HFR11.out.1.2.2).mono ?_
 rw [HT.out]
 rintro e w7 ⟨rfl, hb⟩
 have HB7 := hJ hb
 clear hb
 go_wp2_with fail
 refine (fparse_any TT w7 (by have := HTL.out; omega)).mono ?_
 rw [HFQ.out.1, HFQ.out.2.1, HFQ.out.2.2]
 rintro e w8 ⟨s12, A12, n12, c12, t12, B12, m12, d12, rfl, hr12, hb⟩
 have HB8 := hJ hb
 have HR8hr12 := hJ hr12
 clear hb hr12
 obtain ⟨x9, hx9⟩ := nmz (w8.alloc (.cells #[.bool s12, .slice A12 n12 c12, .bool t12, .slice B12 m12 d12] 35))
 have HB9 := hJ (show Below w8.heap.size w8 x9 by rw [← hx9]; exact ((Below.refl _ _).alloc (Nat.le_refl _) _))
 have HQ9x0 := hJ (show BX 35 x9 w8.heap.size #[.bool s12, .slice A12 n12 c12, .bool t12, .slice B12 m12 d12] by rw [← hx9]; exact (BX.at rfl))
 have HG9x0 := hJ (show w8.heap.size ≤ w8.heap.size by omega)
 have HL9x0 := hJ (show w8.heap.size < x9.heap.size from HQ9x0.out.lt)
 have HC2_5 := hJ (bt (bt HB7.out HB8.out) HB9.out)
 have HQ2x0w5 := hJ (BX.new HQ2x0.out HC2_5.out)
 obtain ⟨cl10, cl11, cl12, cl13⟩ := HQ2x0w5.out.c4 0 1 2 3 rfl rfl rfl rfl
 have HR1hr11w5 := hJ (RNo.new HR1hr11w2.out HC2_5.out)
 have HR1hs11w5 := hJ (RNo.new HR1hs11w2.out HC2_5.out)
 go_wp2_with fail
 clear hx9 cl10 cl11 cl12 cl13
 refine (l4of_any p11 q11 s11 A11 n11 c11 t11 B11 m11 d11 x9 HR1hr11w5.out HR1hs11w5.out HFR11.out.1).mono ?_
 rintro e w14 ⟨s13, A13, n13, c13, t13, B13, m13, d13, rfl, hr13, hb⟩
 have HB14 := hJ hb
 have HR14hr13 := hJ hr13
 clear hb hr13
 go_wp2_with fail
 refine (fstring_any p11 q11 s13 t13 A13 B13 n13 c13 m13 d13 w14 HR14hr13.out HFR11.out.1.2.1 HFR11.out.1.2.2 HFR11.out.1.1.1).mono ?_
 rw [HT.out]
 rintro e w15 ⟨rfl, hb⟩
 have HB15 := hJ hb
 clear hb
 have HC5_7 := hJ (bt HB14.out HB15.out)
 have HQ9x0w7 := hJ (BX.new HQ9x0.out HC5_7.out)
 obtain ⟨cl16, cl17, cl18, cl19⟩ := HQ9x0w7.out.c4 0 1 2 3 rfl rfl rfl rfl
 have HQ2x0w7 := hJ (BX.new HQ2x0w5.out HC5_7.out)
 obtain ⟨cl20, cl21, cl22, cl23⟩ := HQ2x0w7.out.c4 0 1 2 3 rfl rfl rfl rfl
 have HC4_7 := hJ (bt (bt HB9.out HB14.out) HB15.out)
 have HR8hr12w7 := hJ (PF.new HR8hr12.out HC4_7.out)
 have HR1hr11w7 := hJ (RNo.new HR1hr11w5.out HC5_7.out)
 have HR1hs11w7 := hJ (RNo.new HR1hs11w5.out HC5_7.out)
 go_wp2_with fail
 clear cl16 cl17 cl18 cl19 cl20 cl21 cl22 cl23
 refine (l4same_any p11 q11 p11 q11 s12 t12 s11 t11 A12 B12 A11 B11 n12 c12 m12 d12 n11 c11 m11 d11 w15 HR8hr12w7.out HR1hr11w7.out HR1hs11w7.out HFR11.out.1 HFR11.out.1.2.1 HFR11.out.1.2.2).mono ?_
 rw [eqF_self]
 rintro e w24 ⟨rfl, hb⟩
 have HB24 := hJ hb
 clear hb
 obtain ⟨n1, hn1⟩ := nmz (s.size)
 obtain ⟨b1, hb1⟩ := nmz (w24.heap.size)
 obtain ⟨y1, hy1⟩ := nmz (Lib.bytesWorld w24 5 s)
 obtain ⟨cp1, hcp1⟩ := nmz (grownCap w24 s.size 0 5)
 have hrun1 := Lib.run_convert_string_bytes (P := Tryz.prog) w24 9 72 5 s Tryz.underlying9 Tryz.underlying72 Tryz.underlying5
 have hle1 : s.size ≤ cp1 := by rw [← hcp1]; simpa using grownCap_ge w24 s.size 0 5
 have hf1 := Fresh.made w24 5 s
 have hbw1 : Below w24.heap.size w24 y1 := by rw [← hy1]; exact bw_below _ _ _
 have hsz1 : y1.heap.size = w24.heap.size + 1 := by rw [← hy1]; exact Lib.bytesWorld_size _ _ _
 rw [hy1, hcp1, hn1, hb1] at hrun1
 rw [hy1, hn1, hb1] at hf1
 rw [hn1] at hle1
 obtain ⟨n2, hn2⟩ := nmz (TT.length)
 have hn2' : (ByteArray.mk TT.toArray).size = n2 := hn2
 obtain ⟨b2, hb2⟩ := nmz (y1.heap.size)
 obtain ⟨y2, hy2⟩ := nmz (Lib.bytesWorld y1 5 ⟨TT.toArray⟩)
 obtain ⟨cp2, hcp2⟩ := nmz (grownCap y1 (ByteArray.mk TT.toArray).size 0 5)
 have hrun2 := Lib.run_convert_string_bytes (P := Tryz.prog) y1 9 72 5 ⟨TT.toArray⟩ Tryz.underlying9 Tryz.underlying72 Tryz.underlying5
 have hle2 : (ByteArray.mk TT.toArray).size ≤ cp2 := by rw [← hcp2]; simpa using grownCap_ge y1 (ByteArray.mk TT.toArray).size 0 5
 have hf2 := Fresh.made y1 5 ⟨TT.toArray⟩
 have hbw2 : Below y1.heap.size y1 y2 := by rw [← hy2]; exact bw_below _ _ _
 rw [hy2, hcp2, hn2', hb2] at hrun2
 rw [hy2, hn2', hb2] at hf2
 rw [hn2'] at hle2
 have HYF1 := hJ hf1
 have HYF2 := hJ hf2
 have HYN1 := hJ (show n1 ≤ maxLen by rw [← hn1]; exact HSM.out)
 have hna : 1 ≤ n2 := by rw [← hn2]; exact HTP.out
 have hnb : n2 ≤ 10001 := by rw [← hn2]; exact HTL.out
 have HBB := hJ (show b1 < b2 by omega)
 have HYB1 := hJ hbw1
 have HYB2 := hJ hbw2
 have HBE1 := hJ hb1
 have HBE2 := hJ hb2
 have HLE1 := hJ hle1
 have HLE2 := hJ hle2
 have HTN := hJ hn2
 obtain ⟨r, hr⟩ := nmz (at_.tmod (n2 : Int))
 have hr0 : -(n2 : Int) < r ∧ r < n2 := by
  rw [← hr]
  have h1 := Int.tmod_lt_of_pos at_ (show (0 : Int) < n2 by omega)
  have h2 := Int.lt_tmod_of_pos at_ (show (0 : Int) < n2 by omega)
  omega
 obtain ⟨hr1, hr2⟩ := hr0
 obtain ⟨k, hk1, hk2, hk3⟩ : ∃ k : Nat, k < n2 ∧ (r < 0 → r + n2 = (k : Int)) ∧ (¬ r < 0 → r = (k : Int)) := by
  by_cases h : r < 0
  ·exact ⟨(r + n2).toNat, by omega, fun _ => by omega, fun h' => absurd h h'⟩
  ·exact ⟨r.toNat, by omega, fun h' => absurd h' h, fun _ => by omega⟩
 have HYK1 := hJ hk1
 have HYK2 := hJ hk2
 have HYK3 := hJ hk3
 have hn2z : ((n2 : Int) == 0) = false := by rw [beq_eq_false_iff_ne]; omega
 clear hy1 hcp1 hy2 hcp2 hf1 hf2 hbw1 hbw2 hsz1 hn1 hn2 hn2' hb1 hb2 hk1 hk2 hk3 hle1 hle2
 go_upto_if 55 with fail
 go_cut [15] (fun v wx => v = .int .i64 (k : Int) ∧ y2 = wx)
 case first =>
  rcases (show r < 0 ∨ ¬ r < 0 by omega) with q | q
  ·go_wp2_with fail
   go_meet
   exact ⟨by rw [HYK2.out q], rfl⟩
  ·go_wp2_with fail
   go_meet
   exact ⟨by rw [HYK3.out q], rfl⟩
 case rest =>
  obtain ⟨rfl, hwc⟩ := hcut
  subst hwc
  clear hrun1 hrun2 hr hr1 hr2 hn2z
  have hkn : (k : Int) < n2 := by have := HYK1.out; omega
  have hk0 : (0 : Int) ≤ k := by omega
  have hfz := HYF2.out.free k HYK1.out
  have hcl := HYF2.out.cell k HYK1.out
  obtain ⟨y3, hy3⟩ := nmz (World.setCell y2 ⟨b2, k, none⟩ (.int .u8 by_))
  have hf3 := Fresh.set (v := by_) HYF2.out HYK1.out
  rw [hy3] at hf3
  have HYF3 := hJ hf3
  have hb23 : Below y1.heap.size y1 y3 := by rw [← hy3]; exact HYB2.out.setCell (p := ⟨b2, k, none⟩) (by rw [HBE2.out]; exact Nat.le_refl _) _
  have HYF13 := hJ (Fresh.new HYF1.out hb23)
  have HYB3 := hJ (bt HYB1.out hb23)
  clear hf3 hb23
  obtain ⟨m, hm, hm1, hm2⟩ : ∃ m : Nat, (m : Int) = min (n1 : Int) 60 ∧ m ≤ n1 ∧ m ≤ 60 := ⟨min n1 60, by omega, by omega, by omega⟩
  have HM := hJ hm
  have HYM1 := hJ hm1
  have hmI : (m : Int) ≤ n1 := by omega
  have hmC : (m : Int) ≤ cp1 := by have := HLE1.out; omega
  have hm0 : (0 : Int) ≤ m := by omega
  have HYN1' := hJ (show (n1 : Int) ≤ cp1 by have := HLE1.out; omega)
  obtain ⟨l0, hl0, hn0⟩ := str_list (strOfNums ((bI s.data.toList).take m))
  obtain ⟨l1, hl1, hn1'⟩ := str_list (strOfNums ((bI (ByteArray.mk TT.toArray).data.toList).set k by_))
  rw [strOfNums_size, List.length_take] at hn0
  rw [strOfNums_size, List.length_set, bI_length] at hn1'
  have HYL0 := hJ hl0
  have HYL1 := hJ hl1
  have HLEN := hJ (show l0.length ≤ 60 ∧ l1.length ≤ 10001 ∧ TT.length ≤ 10001 from ⟨by omega, (by have h1 : (ByteArray.mk TT.toArray).data.toList.length = TT.length := (by simp); have := HTL.out; omega), HTL.out⟩)
  clear hl0 hl1 hn0 hn1' hm hm1 hm2
  obtain ⟨T2, hT2⟩ := nmz (TT ++ [47, 49])
  obtain ⟨T3, hT3⟩ := nmz ([48] ++ TT)
  obtain ⟨T4, hT4⟩ := nmz ([45] ++ TT)
  obtain ⟨T5, hT5⟩ := nmz (TT ++ [47])
  have HC2 := hJ (show (⟨TT.toArray⟩ : ByteArray) ++ (⟨#[47, 49]⟩ : ByteArray) = ⟨(TT ++ [47, 49]).toArray⟩ from cat_mk TT [47, 49])
  have HC3 := hJ (show (⟨#[48]⟩ : ByteArray) ++ (⟨TT.toArray⟩ : ByteArray) = ⟨([48] ++ TT).toArray⟩ from cat_mk [48] TT)
  have HC4 := hJ (show (⟨#[45]⟩ : ByteArray) ++ (⟨TT.toArray⟩ : ByteArray) = ⟨([45] ++ TT).toArray⟩ from cat_mk [45] TT)
  have HC5 := hJ (show (⟨TT.toArray⟩ : ByteArray) ++ (⟨#[47]⟩ : ByteArray) = ⟨(TT ++ [47]).toArray⟩ from cat_mk TT [47])
  rw [hT2] at HC2
  rw [hT3] at HC3
  rw [hT4] at HC4
  rw [hT5] at HC5
  have HLTS := hJ (show T2.length ≤ 10003 ∧ T3.length ≤ 10003 ∧ T4.length ≤ 10003 ∧ T5.length ≤ 10003 by have := HTL.out; rw [← hT2, ← hT3, ← hT4, ← hT5]; simp only [List.length_append, List.length_cons, List.length_nil]; omega)
  clear hT2 hT3 hT4 hT5
  have HSZ2 := hJ (show (ByteArray.mk TT.toArray).size ≤ 10001 from HTL.out)
  have HS25 : Hid (∀ w', Below y3.heap.size y3 w' → (fun w' : World => Fresh w' b1 n1 (bI s.data.toList) ∧ Fresh w' b2 n2 ((bI (ByteArray.mk TT.toArray).data.toList).set k by_) ∧ Below y3.heap.size y3 w') w') := hJ (fun w' hb => ⟨(Fresh.new HYF13.out hb), (Fresh.new HYF3.out hb), hb⟩)
  go_wp2_with fail
  clear hfz hcl hy3
  obtain ⟨v25, hv25⟩ := nmz (World.drew y3)
  have HX25 := hJ (show Below y3.heap.size y3 v25 by rw [← hv25]; exact (Below.refl _ _).drew)
  refine wp_region_held_drew (S := (fun w' : World => Fresh w' b1 n1 (bI s.data.toList) ∧ Fresh w' b2 n2 ((bI (ByteArray.mk TT.toArray).data.toList).set k by_) ∧ Below y3.heap.size y3 w')) (by kernel_rfl) ?_ (fun hHeld => ?_)
  ·rw [hv25]
   exact HS25.out _ HX25.out
  rw [hv25] at hHeld ⊢
  clear hv25
  refine tq 0 ?_
  try simp only [PT]
  refine tq 1 ?_
  try simp only [PT]
  refine tk 2 (.int .i64 (n1 : Int)) ?_ ?_
  ·intro w hSw
   (try dsimp only at hSw)
   go_simp
   all_goals (first | with_reducible rfl | rfl)
  try simp only [PT]
  refine tk 3 (.int .i64 (m : Int)) ?_ ?_
  ·intro w hSw
   (try dsimp only at hSw)
   go_simp
   all_goals (first | (rw [HM.out]; with_reducible rfl) | (have h := HM.out; simp [h]) | (rw [HM.out]))
  try simp only [PT]
  refine tk 4 (.slice (some ⟨b1, 0, none⟩) m cp1) ?_ ?_
  ·intro w hSw
   (try dsimp only at hSw)
   go_simp
   all_goals (first | with_reducible rfl | rfl)
  try simp only [PT]
  refine tk 5 (.string ⟨l0.toArray⟩) ?_ ?_
  ·intro w hSw
   (try dsimp only at hSw)
   go_simp
   rw [← HYL0.out, fresh_text (c := cp1) hSw.1 m HYM1.out]; rfl
  try simp only [PT]
  refine tq 6 ?_
  try simp only [PT]
  refine tk 7 (.string ⟨l1.toArray⟩) ?_ ?_
  ·intro w hSw
   (try dsimp only at hSw)
   go_simp
   rw [← HYL1.out, fresh_whole (c := cp2) hSw.2.1]; rfl
  try simp only [PT]
  refine tq 8 ?_
  try simp only [PT]
  refine tk 9 (.string ⟨T2.toArray⟩) ?_ ?_
  ·intro w hSw
   (try dsimp only at hSw)
   go_simp
   rw [if_neg (by have := HTL.out; omega), HC2.out]
  try simp only [PT]
  refine tq 10 ?_
  try simp only [PT]
  refine tk 11 (.string ⟨T3.toArray⟩) ?_ ?_
  ·intro w hSw
   (try dsimp only at hSw)
   go_simp
   rw [if_neg (by have := HTL.out; omega), HC3.out]
  try simp only [PT]
  refine tq 12 ?_
  try simp only [PT]
  refine tk 13 (.string ⟨T4.toArray⟩) ?_ ?_
  ·intro w hSw
   (try dsimp only at hSw)
   go_simp
   rw [if_neg (by have := HTL.out; omega), HC4.out]
  try simp only [PT]
  refine tq 14 ?_
  try simp only [PT]
  refine tk 15 (.string ⟨T5.toArray⟩) ?_ ?_
  ·intro w hSw
   (try dsimp only at hSw)
   go_simp
   rw [if_neg (by have := HTL.out; omega), HC5.out]
  try simp only [PT]
  refine wpAnyH_ready (rs := [16]) (by kernel_rfl) (by simp) ?_
  refine .cons rfl (fun K hK => ?_) .nil
  go_simp
  have HB26 := hJ ((Below.refl v25.heap.size v25).alloc (Nat.le_refl _) (.cells #[.string ⟨l0.toArray⟩, .string ⟨l1.toArray⟩, .string ⟨T2.toArray⟩, .string ⟨T3.toArray⟩, .string ⟨T4.toArray⟩, .string ⟨T5.toArray⟩] 9))
  have HP26 := hJ (BX.lit v25 9 #[.string ⟨l0.toArray⟩, .string ⟨l1.toArray⟩, .string ⟨T2.toArray⟩, .string ⟨T3.toArray⟩, .string ⟨T4.toArray⟩, .string ⟨T5.toArray⟩])
  obtain ⟨v26, hV⟩ := nmz (World.alloc v25 (.cells #[.string ⟨l0.toArray⟩, .string ⟨l1.toArray⟩, .string ⟨T2.toArray⟩, .string ⟨T3.toArray⟩, .string ⟨T4.toArray⟩, .string ⟨T5.toArray⟩] 9))
  obtain ⟨g12_16, hg⟩ := nmz (v25.heap.size)
  rw [hV] at HB26 HP26 ⊢
  rw [hg] at HP26 ⊢
  have HG26 := hJ (show y3.heap.size ≤ g12_16 by rw [← hg]; exact HX25.out.size)
  clear hV hg
  have HX26 := hJ (bt HX25.out HB26.out)
  clear hHeld
  refine hK.out _ _ (HS25.out _ HX26.out) (fun hHeld => ?_)
  clear hK K
  try simp only [PT]
  refine tq 17 ?_
  try simp only [PT]
  refine wpAnyH_done (by kernel_rfl) ?_ _
  clear hHeld
  have HL27 := hJ (show g12_16 < v26.heap.size from HP26.out.lt)
  go_wp2_with fail
  go_loopw [17] (fun tv wr => ∃ i : Nat, i ≤ 6 ∧ tv = .int .i64 (i : Int) ∧ Below v26.heap.size v26 wr) (fun tv _ => 6 - (intOf tv).toNat)
  case atStart => exact ⟨0, by omega, rfl, Below.refl _ _⟩
  case round =>
   obtain ⟨i28, hi, rfl, hbel⟩ := hrel
   obtain ⟨wl28, rfl⟩ : ∃ W : World, W = wr := ⟨_, rfl⟩
   have HB28 := hJ hbel
   clear hbel
   rcases (show i28 < 6 ∨ i28 = 6 by omega) with hlt | rfl
   ·have h0i : (0 : Int) ≤ (i28 : Int) := by omega
    have hli : (i28 : Int) < 6 := by omega
    obtain ⟨l14, h0, h1⟩ : ∃ l14 : List UInt8, (#[.string ⟨l0.toArray⟩, .string ⟨l1.toArray⟩, .string ⟨T2.toArray⟩, .string ⟨T3.toArray⟩, .string ⟨T4.toArray⟩, .string ⟨T5.toArray⟩] : Array Value)[i28]? = some (.string ⟨l14.toArray⟩) ∧ l14.length ≤ 100000 := by
     have hcs : i28 = 0 ∨ i28 = 1 ∨ i28 = 2 ∨ i28 = 3 ∨ i28 = 4 ∨ i28 = 5 := by omega
     rcases hcs with rfl | rfl | rfl | rfl | rfl | rfl
     ·exact ⟨_, rfl, by have := HLEN.out; have := HLTS.out; omega⟩
     ·exact ⟨_, rfl, by have := HLEN.out; have := HLTS.out; omega⟩
     ·exact ⟨_, rfl, by have := HLEN.out; have := HLTS.out; omega⟩
     ·exact ⟨_, rfl, by have := HLEN.out; have := HLTS.out; omega⟩
     ·exact ⟨_, rfl, by have := HLEN.out; have := HLTS.out; omega⟩
     ·exact ⟨_, rfl, by have := HLEN.out; have := HLTS.out; omega⟩
    have HS14_0 := hJ h0
    have HLS14 := hJ h1
    clear h0 h1
    have HP26w11 := hJ (BX.new HP26.out HB28.out)
    have cl29 := HP26w11.out.cell (i28) HS14_0.out
    go_wp2_with fail
    clear cl29
    refine (fparse_any l14 wl28 HLS14.out).mono ?_
    rintro e w30 ⟨s15, A15, n15, c15, t15, B15, m15, d15, rfl, hr15, hb⟩
    have HB30 := hJ hb
    have HR30hr15 := hJ hr15
    clear hb hr15
    obtain ⟨x31, hx31⟩ := nmz (w30.alloc (.cells #[.bool s15, .slice A15 n15 c15, .bool t15, .slice B15 m15 d15] 35))
    have HB31 := hJ (show Below w30.heap.size w30 x31 by rw [← hx31]; exact ((Below.refl _ _).alloc (Nat.le_refl _) _))
    have HQ31x0 := hJ (show BX 35 x31 w30.heap.size #[.bool s15, .slice A15 n15 c15, .bool t15, .slice B15 m15 d15] by rw [← hx31]; exact (BX.at rfl))
    have HG31x0 := hJ (show w30.heap.size ≤ w30.heap.size by omega)
    have HL31x0 := hJ (show w30.heap.size < x31.heap.size from HQ31x0.out.lt)
    have HC11_13 := hJ (bt HB30.out HB31.out)
    have HP26w13 := hJ (BX.new HP26w11.out HC11_13.out)
    have cl32 := HP26w13.out.cell (i28) HS14_0.out
    go_wp2_with fail
    clear hx31 cl32
    refine (r4parse_any l14 x31 HLS14.out).mono ?_
    rintro e w33 ⟨s16, A16, n16, c16, t16, B16, m16, d16, rfl, hr16, hs16, hb⟩
    have HB33 := hJ hb
    have HR33hr16 := hJ hr16
    have HR33hs16 := hJ hs16
    clear hb hr16 hs16
    obtain ⟨x34, hx34⟩ := nmz (w33.alloc (.cells #[.bool s16, .slice A16 n16 c16, .bool t16, .slice B16 m16 d16] 41))
    have HB34 := hJ (show Below w33.heap.size w33 x34 by rw [← hx34]; exact ((Below.refl _ _).alloc (Nat.le_refl _) _))
    have HQ34x0 := hJ (show BX 41 x34 w33.heap.size #[.bool s16, .slice A16 n16 c16, .bool t16, .slice B16 m16 d16] by rw [← hx34]; exact (BX.at rfl))
    have HG34x0 := hJ (show w33.heap.size ≤ w33.heap.size by omega)
    have HL34x0 := hJ (show w33.heap.size < x34.heap.size from HQ34x0.out.lt)
    have HC13_15 := hJ (bt HB33.out HB34.out)
    have HQ31x0w15 := hJ (BX.new HQ31x0.out HC13_15.out)
    obtain ⟨cl35, cl36, cl37, cl38⟩ := HQ31x0w15.out.c4 0 1 2 3 rfl rfl rfl rfl
    obtain ⟨cl39, cl40, cl41, cl42⟩ := HQ34x0.out.c4 0 1 2 3 rfl rfl rfl rfl
    have HC12_15 := hJ (bt (bt HB31.out HB33.out) HB34.out)
    have HR30hr15w15 := hJ (PF.new HR30hr15.out HC12_15.out)
    have HR33hr16w15 := hJ (RNo.new HR33hr16.out HB34.out)
    have HR33hs16w15 := hJ (RNo.new HR33hs16.out HB34.out)
    go_wp2_with fail
    clear hx34 cl35 cl36 cl37 cl38 cl39 cl40 cl41 cl42
    refine (l4same_any (fqP l14) (fqQ l14) (fqP l14) (fqQ l14) s15 t15 s16 t16 A15 B15 A16 B16 n15 c15 m15 d15 n16 c16 m16 d16 x34 HR30hr15w15.out HR33hr16w15.out HR33hs16w15.out (fq_fr l14) (fq_fr l14).2.1 (fq_fr l14).2.2).mono ?_
    rw [eqF_self]
    rintro e w43 ⟨rfl, hb⟩
    have HB43 := hJ hb
    clear hb
    have HC10_16 := hJ (bt (bt (bt (bt (bt HB28.out HB30.out) HB31.out) HB33.out) HB34.out) HB43.out)
    go_wp2_with fail
    go_roundw
    case rel => exact ⟨i28 + 1, by omega, by go_num, HC10_16.out⟩
    case measure => simp [intOf] <;> omega
   ·(try rw [show ((6 : Nat) : Int) = 6 from rfl])
    go_wp2_with fail
    refine (l4lives_any wl28).mono ?_
    rintro e w44 ⟨rfl, hb⟩
    have HB44 := hJ hb
    clear hb
    have HC0_12 := hJ (bt (bt (bt (bt (bt (bt (bt (bt (bt (bt (bt HB1.out HB2.out) HB7.out) HB8.out) HB9.out) HB14.out) HB15.out) HB24.out) HYB3.out) HX26.out) HB28.out) HB44.out)
    go_wp2
    go_ret
    exact ⟨rfl, HC0_12.out⟩
theorem fracTexts_law (a0 : Option Addr) (len0 cap0 : Nat) (z0 : List Int) (a1 : ByteArray) (a2 a3 : Int) (w : World) (w0 : RowI .i64 w a0 len0 cap0 z0) (w1 : a1.size ≤ maxLen) (w2 : (Lit.int .i64 a2).wf = true) (w3 : (Lit.int .u8 a3).wf = true) :
  Calls Tryz.prog 8 #[.slice a0 len0 cap0, .string a1, .int .i64 a2, .int .u8 a3] w fun e w' => e = .returned (.bool true) ∧ Below w.heap.size w w' := by
 obtain ⟨ls, h1, h2, h3, h4⟩ := w0.open_
 exact fracTexts_walk a0 len0 cap0 ls a1 a2 a3 w ⟨h4, by rw [h1]; exact h2, h3⟩ w1 w2 w3
end Go.Proofs.YtbhnaffbgggabaaGreat
