/- Contracts of the reference's Text and Parse of a fraction. Conditions: as each statement has them. -/
import Derived.Test.YtbhnaffbgggabaaGreatNRv
import Derived.Test.YtbhnaffbgggabaaGreatAA
import Derived.Test.YtbhnaffbgggabaaGreatAB
import Derived.Test.YtbhnaffbgggabaaGreatAE
import Derived.Laws.Concat
namespace Go.Proofs.YtbhnaffbgggabaaGreat
open Go.RowKit
attribute [local go_sem ↓] Go.wp_at_zero Go.wp_at_succ
attribute [local go_sem] str_get
theorem fracT_len {p q : Int} (hp : p.natAbs < lim) (hq : q.natAbs < lim) : (fracT p q).length ≤ 10001 := by
 have h1 := decI_short (lim_big hp)
 have h2 := decI_short (lim_big hq)
 unfold fracT
 split
 ·omega
 ·simp; omega
theorem t_one : decI 1 = [49] := by
 unfold decI
 rw [if_neg (by decide)]
 exact dec_lt (by decide)
theorem one_iff (q : Int) : (decI q == [49]) = decide (q = 1) := by rw [← t_one]; exact decI_eq q 1
theorem ps_one : psV [49] = 1 ∧ psC [49] = 0 := by
 have h := ps_decI (x := 1) (lim_big one_lim)
 rw [t_one] at h
 rw [h.1, h.2]
 exact in_lim one_lim
theorem ps_text {a b : List UInt8} (h : (47 : UInt8) ∉ a) (ha : psC a = 0) (hb : psC b = 0) (hy : psV b ≠ 0) : fracT (mkP (psV a) (psV b)) (mkQ (psV a) (psV b)) = a ++ 47 :: b ↔ fpK a b := by
 have ea := ps_back a ha
 have eb := ps_back b hb
 have hl := mk_low' (psV a) (psV b) hy
 constructor
 ·intro e
  unfold fracT at e
  split at e
  ·exact absurd (by rw [e]; simp) (dec_slash (mkP (psV a) (psV b)))
  ·rename_i hq
   obtain ⟨e1, e2⟩ := cut_inj (dec_slash _) h e
   have p1 : mkP (psV a) (psV b) = psV a := decI_inj (by rw [ea]; exact e1)
   have p2 : mkQ (psV a) (psV b) = psV b := decI_inj (by rw [eb]; exact e2)
   rw [p1, p2] at hl
   rw [p2] at hq
   exact ⟨ha, hb, hl.1.1, hq, hl.1.2⟩
 ·intro k
  obtain ⟨p1, p2⟩ := mk_self (p := psV a) (q := psV b) ⟨k.2.2.1, k.2.2.2.2⟩
  rw [p1, p2]
  unfold fracT
  rw [if_neg k.2.2.2.1, ea, eb]
theorem ps_text0 {l : List UInt8} (h : psC l = 0) : fracT (psV l) 1 = l := by
 unfold fracT
 rw [if_pos rfl]
 exact ps_back l h
/-- A text is read back. -/
theorem fq_text {p q : Int} (h : Fr p q) : fqP (fracT p q) = p ∧ fqQ (fracT p q) = q ∧ fqC (fracT p q) = 0 := by
 obtain ⟨h1, h2, h3⟩ := h
 have e1 := ps_decI (lim_big h2)
 rw [in_lim h2 |>.1, in_lim h2 |>.2] at e1
 have e2 := ps_decI (lim_big h3)
 rw [in_lim h3 |>.1, in_lim h3 |>.2] at e2
 unfold fracT
 split
 ·rename_i hq
  obtain ⟨g1, g2, g3⟩ := fq_no (dec_slash p)
  rw [g1, g2, g3, if_pos e1.2, if_pos e1.2, e1.1, hq]
  exact ⟨rfl, rfl, rfl⟩
 ·rename_i hq
  obtain ⟨g1, g2, g3⟩ := fq_good (b := decI q) (dec_slash p) ⟨e1.2, e2.2, by rw [e2.1]; exact h1.1, by rw [e2.1]; exact hq, by rw [e1.1, e2.1]; exact h1.2⟩
  rw [g1, g2, g3, e1.1, e2.1]
  exact ⟨rfl, rfl, rfl⟩
theorem fp_cases2 (a b : List UInt8) : psC a ≠ 0 ∨ (psC a = 0 ∧ psC b ≠ 0) ∨ (psC a = 0 ∧ psC b = 0 ∧ psV b = 0) ∨ (psC a = 0 ∧ psC b = 0 ∧ psV b ≠ 0 ∧ ¬ fpK a b) ∨ fpK a b := by
 by_cases h1 : psC a = 0
 ·by_cases h2 : psC b = 0
  ·by_cases h3 : psV b = 0
   ·exact .inr (.inr (.inl ⟨h1, h2, h3⟩))
   ·by_cases h4 : fpK a b
    ·exact .inr (.inr (.inr (.inr h4)))
    ·exact .inr (.inr (.inr (.inl ⟨h1, h2, h3, h4⟩)))
  ·exact .inr (.inl ⟨h1, h2⟩)
 ·exact .inl h1
theorem slash_at {a b : List UInt8} (h : (47 : UInt8) ∉ a) (i : Nat) (hi : i < (a ++ 47 :: b).length) : (i < a.length → ((((a ++ 47 :: b)[i]'hi).toNat : Int) == 47) = false) ∧ (i = a.length → ((((a ++ 47 :: b)[i]'hi).toNat : Int) == 47) = true) := by
 constructor
 ·intro hl
  rw [List.getElem_append_left hl, beq_eq_false_iff_ne]
  intro e
  refine h ?_
  have e2 : (a[i]'hl) = 47 := UInt8.toNat_inj.1 (by rw [show (47 : UInt8).toNat = 47 from rfl]; omega)
  rw [← e2]
  exact List.getElem_mem hl
 ·rintro rfl
  rw [List.getElem_append_right (Nat.le_refl _)]
  simp
theorem slash_no {l : List UInt8} (h : (47 : UInt8) ∉ l) (i : Nat) (hi : i < l.length) : (((l[i]'hi).toNat : Int) == 47) = false := by
 rw [beq_eq_false_iff_ne]
 intro e
 refine h ?_
 have e2 : (l[i]'hi) = 47 := UInt8.toNat_inj.1 (by rw [show (47 : UInt8).toNat = 47 from rfl]; omega)
 rw [← e2]
 exact List.getElem_mem hi
set_option maxRecDepth 100000 in
set_option maxHeartbeats 1600000 in
theorem r4text_any (p q : Int) (s0 : Bool) (A0 : Option Addr) (n0 c0 : Nat) (t0 : Bool) (B0 : Option Addr) (m0 d0 : Nat) (w : World) (hp : RN w s0 A0 n0 c0 p) (hq : RN w t0 B0 m0 d0 q) (hlp : p.natAbs < lim) (hlq : q.natAbs < lim) :
  Calls Tryz.prog 52 #[.agg #[.bool s0, .slice A0 n0 c0, .bool t0, .slice B0 m0 d0]] w (RetStr (fracT p q) w) := by
 have HP0 := hJ hp
 have HP1 := hJ hq
 have HLP := hJ hlp
 have HLQ := hJ hlq
 have HONE := hJ (one_iff q)
 have HSZ := hJ (And.intro (decI_short (lim_big hlp)) (decI_short (lim_big hlq)))
 clear hp hq hlp hlq
 obtain ⟨X0, hX0⟩ : ∃ l, decI p = l := ⟨_, rfl⟩
 obtain ⟨X1, hX1⟩ : ∃ l, decI q = l := ⟨_, rfl⟩
 rw [hX1] at HONE
 have HD0 := hJ hX0
 have HD1 := hJ hX1
 clear hX0 hX1
 by_cases h1 : q = 1
 ·have HBB := hJ (show (X1 == [49]) = true by rw [HONE.out]; exact decide_eq_true h1)
  have HV := hJ (show fracT p q = X0 from (if_pos h1).trans HD0.out)
  clear h1
  obtain ⟨x1, hx1⟩ := nmz (w.alloc (.cells #[.bool s0, .slice A0 n0 c0, .bool t0, .slice B0 m0 d0] 41))
  have HB1 := hJ (show Below w.heap.size w x1 by rw [← hx1]; exact ((Below.refl _ _).alloc (Nat.le_refl _) _))
  have HQ1x0 := hJ (show BX 41 x1 w.heap.size #[.bool s0, .slice A0 n0 c0, .bool t0, .slice B0 m0 d0] by rw [← hx1]; exact (BX.at rfl))
  have HG1x0 := hJ (show w.heap.size ≤ w.heap.size by omega)
  have HL1x0 := hJ (show w.heap.size < x1.heap.size from HQ1x0.out.lt)
  obtain ⟨cl2, cl3⟩ := HQ1x0.out.c2 2 3 rfl rfl
  have HP1w1 := hJ (RNo.new HP1.out HB1.out)
  go_enter Tryz.func52, Tryz.ntmps52
  go_wp2_with fail
  clear hx1 cl2 cl3
  refine (text_any q t0 B0 m0 d0 x1 HP1w1.out (Nat.le_trans (rlim HP1w1.out HLQ.out) (by decide))).mono ?_
  rw [HD1.out]
  rintro e w4 ⟨rfl, hb⟩
  have HB4 := hJ hb
  clear hb
  have hb1 := HBB.out
  have HQ1x0w2 := hJ (BX.new HQ1x0.out HB4.out)
  obtain ⟨cl5, cl6⟩ := HQ1x0w2.out.c2 0 1 rfl rfl
  have HC0_2 := hJ (bt HB1.out HB4.out)
  have HP0w2 := hJ (RNo.new HP0.out HC0_2.out)
  go_wp2_with fail
  clear hb1 cl5 cl6
  refine (text_any p s0 A0 n0 c0 w4 HP0w2.out (Nat.le_trans (rlim HP0w2.out HLP.out) (by decide))).mono ?_
  rw [HD0.out]
  rintro e w7 ⟨rfl, hb⟩
  have HB7 := hJ hb
  clear hb
  have HC0_3 := hJ (bt HC0_2.out HB7.out)
  go_wp2
  go_ret
  exact ⟨by rw [HV.out]; rfl, HC0_3.out⟩
 ·have HBB := hJ (show (X1 == [49]) = false by rw [HONE.out]; exact decide_eq_false h1)
  have HV := hJ (show ByteArray.mk (fracT p q).toArray = ByteArray.mk X0.toArray ++ ⟨#[47]⟩ ++ ByteArray.mk X1.toArray by rw [show fracT p q = decI p ++ 47 :: decI q from if_neg h1, HD0.out, HD1.out]; exact text_sum _ _)
  have hz0 : X0.length ≤ 5000 := by rw [← HD0.out]; exact HSZ.out.1
  have hz1 : X1.length ≤ 5000 := by rw [← HD1.out]; exact HSZ.out.2
  clear h1
  obtain ⟨x8, hx8⟩ := nmz (w.alloc (.cells #[.bool s0, .slice A0 n0 c0, .bool t0, .slice B0 m0 d0] 41))
  have HB8 := hJ (show Below w.heap.size w x8 by rw [← hx8]; exact ((Below.refl _ _).alloc (Nat.le_refl _) _))
  have HQ8x0 := hJ (show BX 41 x8 w.heap.size #[.bool s0, .slice A0 n0 c0, .bool t0, .slice B0 m0 d0] by rw [← hx8]; exact (BX.at rfl))
  have HG8x0 := hJ (show w.heap.size ≤ w.heap.size by omega)
  have HL8x0 := hJ (show w.heap.size < x8.heap.size from HQ8x0.out.lt)
  obtain ⟨cl9, cl10⟩ := HQ8x0.out.c2 2 3 rfl rfl
  have HP1w1 := hJ (RNo.new HP1.out HB8.out)
  go_enter Tryz.func52, Tryz.ntmps52
  go_wp2_with fail
  clear hx8 cl9 cl10
  refine (text_any q t0 B0 m0 d0 x8 HP1w1.out (Nat.le_trans (rlim HP1w1.out HLQ.out) (by decide))).mono ?_
  rw [HD1.out]
  rintro e w11 ⟨rfl, hb⟩
  have HB11 := hJ hb
  clear hb
  have hb1 := HBB.out
  have HQ8x0w2 := hJ (BX.new HQ8x0.out HB11.out)
  obtain ⟨cl12, cl13⟩ := HQ8x0w2.out.c2 0 1 rfl rfl
  have HC0_2 := hJ (bt HB8.out HB11.out)
  have HP0w2 := hJ (RNo.new HP0.out HC0_2.out)
  go_wp2_with fail
  clear hb1 cl12 cl13
  refine (text_any p s0 A0 n0 c0 w11 HP0w2.out (Nat.le_trans (rlim HP0w2.out HLP.out) (by decide))).mono ?_
  rw [HD0.out]
  rintro e w14 ⟨rfl, hb⟩
  have HB14 := hJ hb
  clear hb
  have HC0_3 := hJ (bt HC0_2.out HB14.out)
  go_wp2
  go_ret
  exact ⟨by rw [HV.out]; rfl, HC0_3.out⟩
set_option maxRecDepth 100000 in
set_option maxHeartbeats 1600000 in
theorem r4parse_yes (a b : List UInt8) (w : World) (hs : (a ++ 47 :: b).length ≤ 100000) (h : (47 : UInt8) ∉ a) :
  Calls Tryz.prog 55 #[.string ⟨(a ++ 47 :: b).toArray⟩] w (RetRE (fqP (a ++ 47 :: b)) (fqQ (a ++ 47 :: b)) (fqC (a ++ 47 :: b)) w) := by
 have HP49 := hJ (show psC [49] = 0 from ps_one.2)
 have HS := hJ hs
 have HN := hJ h
 have hlen : (a ++ 47 :: b).length = a.length + 1 + b.length := by simp; omega
 have HLA := hJ (show a.length ≤ 100000 by omega)
 have HLB := hJ (show b.length ≤ 100000 by omega)
 have HA := hJ (ext_a a b)
 have HB := hJ (show (ByteArray.mk (a ++ 47 :: b).toArray).extract (a.length + 1) (a.length + 1 + b.length) = ⟨b.toArray⟩ by have h1 := ext_b a b; rwa [show (ByteArray.mk (a ++ 47 :: b).toArray).size = a.length + 1 + b.length from hlen] at h1)
 have HAT := hJ (show ∀ (i : Nat) (hi : i < (a ++ 47 :: b).length), (i < a.length → ((((a ++ 47 :: b)[i]'hi).toNat : Int) == 47) = false) ∧ (i = a.length → ((((a ++ 47 :: b)[i]'hi).toNat : Int) == 47) = true) from slash_at h)
 have HGD := hJ (fun (hk : fpK a b) => fq_good h hk)
 have HBD := hJ (fun (hk : ¬ fpK a b) => fq_bad h hk)
 have HTX := hJ (fun (ha : psC a = 0) (hb : psC b = 0) (hy : psV b ≠ 0) => ps_text h ha hb hy)
 obtain ⟨k, hk⟩ : ∃ k, a.length = k := ⟨_, rfl⟩
 obtain ⟨l, hl⟩ : ∃ l, a ++ 47 :: b = l := ⟨_, rfl⟩
 rw [hk] at HA HB hlen
 rw [hl] at HA HB HAT HGD HBD HTX hlen hs ⊢
 rw [hk] at HAT
 clear h hk hl
 obtain ⟨x1, hx1⟩ := nmz (w.alloc (.cells #[.bool false, .slice none 0 0, .bool false, .slice none 0 0] 41))
 have HB1 := hJ (show Below w.heap.size w x1 by rw [← hx1]; exact ((Below.refl _ _).alloc (Nat.le_refl _) _))
 have HQ1x0 := hJ (show BX 41 x1 w.heap.size #[.bool false, .slice none 0 0, .bool false, .slice none 0 0] by rw [← hx1]; exact (BX.at rfl))
 have HG1x0 := hJ (show w.heap.size ≤ w.heap.size by omega)
 have HL1x0 := hJ (show w.heap.size < x1.heap.size from HQ1x0.out.lt)
 go_enter Tryz.func55, Tryz.ntmps55
 go_wp2_with fail
 clear hx1
 go_loopw [6, 4, 5] (fun tv kp0 kp1 wr => ∃ i : Nat, i ≤ k ∧ tv = .int .i64 (i : Int) ∧ kp0 = .string ⟨l.toArray⟩ ∧ kp1 = .string ⟨#[49]⟩ ∧ wr = x1) (fun tv _ _ _ => k - (intOf tv).toNat)
 case atStart => exact ⟨0, by omega, rfl, rfl, rfl, rfl⟩
 case round =>
  obtain ⟨i2, hi, rfl, rfl, rfl, rfl⟩ := hrel
  obtain ⟨x1, rfl⟩ : ∃ W, W = wr := ⟨_, rfl⟩
  rcases (show i2 < k ∨ i2 = k by omega) with hlt | rfl
  ·have hll : i2 < l.length := by omega
   have hat := (HAT.out i2 hll).1 hlt
   go_wp2_with fail
   go_roundw
   case rel => exact ⟨i2 + 1, by omega, by go_num, rfl, rfl, by first | rfl | trivial⟩
   case measure => simp [intOf] <;> omega
  ·have hll : i2 < l.length := by omega
   have hat := (HAT.out i2 hll).2 rfl
   rcases fp_cases2 a b with h1 | ⟨h1, h2⟩ | ⟨h1, h2, h3⟩ | ⟨h1, h2, h3, h4⟩ | hk
   ·have HR := hJ (HBD.out (fun k => h1 k.1))
    obtain ⟨ca, hca⟩ := nmz (psC a)
    obtain ⟨cb, hcb⟩ := nmz (psC b)
    have HCA := hJ hca
    have HCB := hJ hcb
    rw [hca] at h1
    clear hca hcb
    go_wp2_with fail
    rw [HA.out, HB.out]
    refine (rparse_any a x1 HLA.out).mono ?_
    rw [HCA.out]
    rintro e w3 ⟨s11, A11, n11, c11, rfl, hr11, hb⟩
    have HB3 := hJ hb
    have HR3hr11 := hJ hr11
    clear hb hr11
    obtain ⟨x4, hx4⟩ := nmz (w3.alloc (.cells #[.bool s11, .slice A11 n11 c11] 24))
    have HB4 := hJ (show Below w3.heap.size w3 x4 by rw [← hx4]; exact ((Below.refl _ _).alloc (Nat.le_refl _) _))
    have HQ4x0 := hJ (show BX 24 x4 w3.heap.size #[.bool s11, .slice A11 n11 c11] by rw [← hx4]; exact (BX.at rfl))
    have HG4x0 := hJ (show w3.heap.size ≤ w3.heap.size by omega)
    have HL4x0 := hJ (show w3.heap.size < x4.heap.size from HQ4x0.out.lt)
    go_wp2_with fail
    clear hx4
    refine (rparse_any b x4 HLB.out).mono ?_
    rw [HCB.out]
    rintro e w5 ⟨s12, A12, n12, c12, rfl, hr12, hb⟩
    have HB5 := hJ hb
    have HR5hr12 := hJ hr12
    clear hb hr12
    obtain ⟨x6, hx6⟩ := nmz (w5.alloc (.cells #[.bool s12, .slice A12 n12 c12] 24))
    have HB6 := hJ (show Below w5.heap.size w5 x6 by rw [← hx6]; exact ((Below.refl _ _).alloc (Nat.le_refl _) _))
    have HQ6x0 := hJ (show BX 24 x6 w5.heap.size #[.bool s12, .slice A12 n12 c12] by rw [← hx6]; exact (BX.at rfl))
    have HG6x0 := hJ (show w5.heap.size ≤ w5.heap.size by omega)
    have HL6x0 := hJ (show w5.heap.size < x6.heap.size from HQ6x0.out.lt)
    go_wp2_with fail
    clear hx6
    refine (r4of_any 0 x6 (by decide)).mono ?_
    rintro e w7 ⟨s13, A13, n13, c13, t13, B13, m13, d13, rfl, hr13, hs13, hb⟩
    have HB7 := hJ hb
    have HR7hr13 := hJ hr13
    have HR7hs13 := hJ hs13
    clear hb hr13 hs13
    have HC1_6 := hJ (bt (bt (bt (bt HB3.out HB4.out) HB5.out) HB6.out) HB7.out)
    have HQ1x0w6 := hJ (BX.new HQ1x0.out HC1_6.out)
    have fz8_0 := HQ1x0w6.out.frozen 0
    have fc8_0 := HQ1x0w6.out.cell 0 rfl
    have fz8_1 := HQ1x0w6.out.frozen 1
    have fc8_1 := HQ1x0w6.out.cell 1 rfl
    have fz8_2 := HQ1x0w6.out.frozen 2
    have fc8_2 := HQ1x0w6.out.cell 2 rfl
    have fz8_3 := HQ1x0w6.out.frozen 3
    have fc8_3 := HQ1x0w6.out.cell 3 rfl
    obtain ⟨x8, hx8⟩ := nmz (World.setCell (World.setCell (World.setCell (World.setCell w7 ⟨w.heap.size, 0, none⟩ (.bool s13)) ⟨w.heap.size, 1, none⟩ (.slice A13 n13 c13)) ⟨w.heap.size, 2, none⟩ (.bool t13)) ⟨w.heap.size, 3, none⟩ (.slice B13 m13 d13))
    have HE8 := hJ (show sto w7 w.heap.size 0 [.bool s13, .slice A13 n13 c13, .bool t13, .slice B13 m13 d13] = x8 from hx8)
    have HQ8s := hJ (show BX 41 x8 w.heap.size #[.bool s13, .slice A13 n13 c13, .bool t13, .slice B13 m13 d13] by rw [← HE8.out]; exact BX.put HQ1x0w6.out _ _)
    have HC0_7 := hJ (show Below w.heap.size w x8 by rw [← HE8.out]; exact below_sto (bt (bt (bt (bt (bt HB1.out HB3.out) HB4.out) HB5.out) HB6.out) HB7.out) HG1x0.out _ _)
    have HR7hr13w7 := hJ (show RN x8 s13 A13 n13 c13 0 by rw [← HE8.out]; exact RNo.sto HR7hr13.out HQ1x0w6.out rfl _ _)
    have HR7hs13w7 := hJ (show RN x8 t13 B13 m13 d13 1 by rw [← HE8.out]; exact RNo.sto HR7hs13.out HQ1x0w6.out rfl _ _)
    go_wp2
    clear fz8_0 fc8_0 fz8_1 fc8_1 fz8_2 fc8_2 fz8_3 fc8_3 hx8
    exact bodyPost_ret (results_cell1 rfl _ _ _ _ _ _ _ rfl HQ8s.out Tryz.underlying41 rfl (by kernel_rfl)) rfl (by rw [HR.out.1, HR.out.2.1, HR.out.2.2]; exact ⟨s13, A13, n13, c13, t13, B13, m13, d13, rfl, HR7hr13w7.out, HR7hs13w7.out, HC0_7.out⟩)
   ·have HR := hJ (HBD.out (fun k => h2 k.2.1))
    have HCA := hJ h1
    obtain ⟨cb, hcb⟩ := nmz (psC b)
    have HCB := hJ hcb
    rw [hcb] at h2
    clear hcb h1
    go_wp2_with fail
    rw [HA.out, HB.out]
    refine (rparse_any a x1 HLA.out).mono ?_
    rw [HCA.out]
    rintro e w9 ⟨s14, A14, n14, c14, rfl, hr14, hb⟩
    have HB9 := hJ hb
    have HR9hr14 := hJ hr14
    clear hb hr14
    obtain ⟨x10, hx10⟩ := nmz (w9.alloc (.cells #[.bool s14, .slice A14 n14 c14] 24))
    have HB10 := hJ (show Below w9.heap.size w9 x10 by rw [← hx10]; exact ((Below.refl _ _).alloc (Nat.le_refl _) _))
    have HQ10x0 := hJ (show BX 24 x10 w9.heap.size #[.bool s14, .slice A14 n14 c14] by rw [← hx10]; exact (BX.at rfl))
    have HG10x0 := hJ (show w9.heap.size ≤ w9.heap.size by omega)
    have HL10x0 := hJ (show w9.heap.size < x10.heap.size from HQ10x0.out.lt)
    go_wp2_with fail
    clear hx10
    refine (rparse_any b x10 HLB.out).mono ?_
    rw [HCB.out]
    rintro e w11 ⟨s15, A15, n15, c15, rfl, hr15, hb⟩
    have HB11 := hJ hb
    have HR11hr15 := hJ hr15
    clear hb hr15
    obtain ⟨x12, hx12⟩ := nmz (w11.alloc (.cells #[.bool s15, .slice A15 n15 c15] 24))
    have HB12 := hJ (show Below w11.heap.size w11 x12 by rw [← hx12]; exact ((Below.refl _ _).alloc (Nat.le_refl _) _))
    have HQ12x0 := hJ (show BX 24 x12 w11.heap.size #[.bool s15, .slice A15 n15 c15] by rw [← hx12]; exact (BX.at rfl))
    have HG12x0 := hJ (show w11.heap.size ≤ w11.heap.size by omega)
    have HL12x0 := hJ (show w11.heap.size < x12.heap.size from HQ12x0.out.lt)
    go_wp2_with fail
    clear hx12
    refine (r4of_any 0 x12 (by decide)).mono ?_
    rintro e w13 ⟨s16, A16, n16, c16, t16, B16, m16, d16, rfl, hr16, hs16, hb⟩
    have HB13 := hJ hb
    have HR13hr16 := hJ hr16
    have HR13hs16 := hJ hs16
    clear hb hr16 hs16
    have HC1_6 := hJ (bt (bt (bt (bt HB9.out HB10.out) HB11.out) HB12.out) HB13.out)
    have HQ1x0w6 := hJ (BX.new HQ1x0.out HC1_6.out)
    have fz14_0 := HQ1x0w6.out.frozen 0
    have fc14_0 := HQ1x0w6.out.cell 0 rfl
    have fz14_1 := HQ1x0w6.out.frozen 1
    have fc14_1 := HQ1x0w6.out.cell 1 rfl
    have fz14_2 := HQ1x0w6.out.frozen 2
    have fc14_2 := HQ1x0w6.out.cell 2 rfl
    have fz14_3 := HQ1x0w6.out.frozen 3
    have fc14_3 := HQ1x0w6.out.cell 3 rfl
    obtain ⟨x14, hx14⟩ := nmz (World.setCell (World.setCell (World.setCell (World.setCell w13 ⟨w.heap.size, 0, none⟩ (.bool s16)) ⟨w.heap.size, 1, none⟩ (.slice A16 n16 c16)) ⟨w.heap.size, 2, none⟩ (.bool t16)) ⟨w.heap.size, 3, none⟩ (.slice B16 m16 d16))
    have HE14 := hJ (show sto w13 w.heap.size 0 [.bool s16, .slice A16 n16 c16, .bool t16, .slice B16 m16 d16] = x14 from hx14)
    have HQ14s := hJ (show BX 41 x14 w.heap.size #[.bool s16, .slice A16 n16 c16, .bool t16, .slice B16 m16 d16] by rw [← HE14.out]; exact BX.put HQ1x0w6.out _ _)
    have HC0_7 := hJ (show Below w.heap.size w x14 by rw [← HE14.out]; exact below_sto (bt (bt (bt (bt (bt HB1.out HB9.out) HB10.out) HB11.out) HB12.out) HB13.out) HG1x0.out _ _)
    have HR13hr16w7 := hJ (show RN x14 s16 A16 n16 c16 0 by rw [← HE14.out]; exact RNo.sto HR13hr16.out HQ1x0w6.out rfl _ _)
    have HR13hs16w7 := hJ (show RN x14 t16 B16 m16 d16 1 by rw [← HE14.out]; exact RNo.sto HR13hs16.out HQ1x0w6.out rfl _ _)
    go_wp2
    clear fz14_0 fc14_0 fz14_1 fc14_1 fz14_2 fc14_2 fz14_3 fc14_3 hx14
    exact bodyPost_ret (results_cell1 rfl _ _ _ _ _ _ _ rfl HQ14s.out Tryz.underlying41 rfl (by kernel_rfl)) rfl (by rw [HR.out.1, HR.out.2.1, HR.out.2.2]; exact ⟨s16, A16, n16, c16, t16, B16, m16, d16, rfl, HR13hr16w7.out, HR13hs16w7.out, HC0_7.out⟩)
   ·have HR := hJ (HBD.out (fun k => by have := k.2.2.1; omega))
    have HMC := hJ (show mkC (psV b) = 1 from if_pos h3)
    have HCA := hJ h1
    have HCB := hJ h2
    clear h1 h2
    clear h3
    go_wp2_with fail
    rw [HA.out, HB.out]
    refine (rparse_any a x1 HLA.out).mono ?_
    rw [HCA.out]
    rintro e w15 ⟨s17, A17, n17, c17, rfl, hr17, hb⟩
    have HB15 := hJ hb
    have HR15hr17 := hJ hr17
    clear hb hr17
    obtain ⟨x16, hx16⟩ := nmz (w15.alloc (.cells #[.bool s17, .slice A17 n17 c17] 24))
    have HB16 := hJ (show Below w15.heap.size w15 x16 by rw [← hx16]; exact ((Below.refl _ _).alloc (Nat.le_refl _) _))
    have HQ16x0 := hJ (show BX 24 x16 w15.heap.size #[.bool s17, .slice A17 n17 c17] by rw [← hx16]; exact (BX.at rfl))
    have HG16x0 := hJ (show w15.heap.size ≤ w15.heap.size by omega)
    have HL16x0 := hJ (show w15.heap.size < x16.heap.size from HQ16x0.out.lt)
    go_wp2_with fail
    clear hx16
    refine (rparse_any b x16 HLB.out).mono ?_
    rw [HCB.out]
    rintro e w17 ⟨s18, A18, n18, c18, rfl, hr18, hb⟩
    have HB17 := hJ hb
    have HR17hr18 := hJ hr18
    clear hb hr18
    obtain ⟨x18, hx18⟩ := nmz (w17.alloc (.cells #[.bool s18, .slice A18 n18 c18] 24))
    have HB18 := hJ (show Below w17.heap.size w17 x18 by rw [← hx18]; exact ((Below.refl _ _).alloc (Nat.le_refl _) _))
    have HQ18x0 := hJ (show BX 24 x18 w17.heap.size #[.bool s18, .slice A18 n18 c18] by rw [← hx18]; exact (BX.at rfl))
    have HG18x0 := hJ (show w17.heap.size ≤ w17.heap.size by omega)
    have HL18x0 := hJ (show w17.heap.size < x18.heap.size from HQ18x0.out.lt)
    have HC3_5 := hJ (bt HB17.out HB18.out)
    have HQ16x0w5 := hJ (BX.new HQ16x0.out HC3_5.out)
    obtain ⟨cl19, cl20⟩ := HQ16x0w5.out.c2 0 1 rfl rfl
    obtain ⟨cl21, cl22⟩ := HQ18x0.out.c2 0 1 rfl rfl
    have HC2_5 := hJ (bt (bt HB16.out HB17.out) HB18.out)
    have HR15hr17w5 := hJ (RNo.new HR15hr17.out HC2_5.out)
    have HR17hr18w5 := hJ (RNo.new HR17hr18.out HB18.out)
    go_wp2_with fail
    clear hx18 cl19 cl20 cl21 cl22
    refine (r4make_any (psV a) (psV b) (32 * limE) s17 A17 n17 c17 s18 A18 n18 c18 x18 HR15hr17w5.out HR17hr18w5.out (by decide) (lim_b2 (ps_lim a)) (lim_b2 (ps_lim b))).mono ?_
    rw [HMC.out]
    rintro e w23 ⟨s19, A19, n19, c19, t19, B19, m19, d19, rfl, hr19, hs19, hb⟩
    have HB23 := hJ hb
    have HR23hr19 := hJ hr19
    have HR23hs19 := hJ hs19
    clear hb hr19 hs19
    obtain ⟨x24, hx24⟩ := nmz (w23.alloc (.cells #[.bool s19, .slice A19 n19 c19, .bool t19, .slice B19 m19 d19] 41))
    have HB24 := hJ (show Below w23.heap.size w23 x24 by rw [← hx24]; exact ((Below.refl _ _).alloc (Nat.le_refl _) _))
    have HQ24x0 := hJ (show BX 41 x24 w23.heap.size #[.bool s19, .slice A19 n19 c19, .bool t19, .slice B19 m19 d19] by rw [← hx24]; exact (BX.at rfl))
    have HG24x0 := hJ (show w23.heap.size ≤ w23.heap.size by omega)
    have HL24x0 := hJ (show w23.heap.size < x24.heap.size from HQ24x0.out.lt)
    go_wp2_with fail
    clear hx24
    refine (r4of_any 0 x24 (by decide)).mono ?_
    rintro e w25 ⟨s20, A20, n20, c20, t20, B20, m20, d20, rfl, hr20, hs20, hb⟩
    have HB25 := hJ hb
    have HR25hr20 := hJ hr20
    have HR25hs20 := hJ hs20
    clear hb hr20 hs20
    have HC1_8 := hJ (bt (bt (bt (bt (bt (bt HB15.out HB16.out) HB17.out) HB18.out) HB23.out) HB24.out) HB25.out)
    have HQ1x0w8 := hJ (BX.new HQ1x0.out HC1_8.out)
    have fz26_0 := HQ1x0w8.out.frozen 0
    have fc26_0 := HQ1x0w8.out.cell 0 rfl
    have fz26_1 := HQ1x0w8.out.frozen 1
    have fc26_1 := HQ1x0w8.out.cell 1 rfl
    have fz26_2 := HQ1x0w8.out.frozen 2
    have fc26_2 := HQ1x0w8.out.cell 2 rfl
    have fz26_3 := HQ1x0w8.out.frozen 3
    have fc26_3 := HQ1x0w8.out.cell 3 rfl
    obtain ⟨x26, hx26⟩ := nmz (World.setCell (World.setCell (World.setCell (World.setCell w25 ⟨w.heap.size, 0, none⟩ (.bool s20)) ⟨w.heap.size, 1, none⟩ (.slice A20 n20 c20)) ⟨w.heap.size, 2, none⟩ (.bool t20)) ⟨w.heap.size, 3, none⟩ (.slice B20 m20 d20))
    have HE26 := hJ (show sto w25 w.heap.size 0 [.bool s20, .slice A20 n20 c20, .bool t20, .slice B20 m20 d20] = x26 from hx26)
    have HQ26s := hJ (show BX 41 x26 w.heap.size #[.bool s20, .slice A20 n20 c20, .bool t20, .slice B20 m20 d20] by rw [← HE26.out]; exact BX.put HQ1x0w8.out _ _)
    have HC0_9 := hJ (show Below w.heap.size w x26 by rw [← HE26.out]; exact below_sto (bt (bt (bt (bt (bt (bt (bt HB1.out HB15.out) HB16.out) HB17.out) HB18.out) HB23.out) HB24.out) HB25.out) HG1x0.out _ _)
    have HR25hr20w9 := hJ (show RN x26 s20 A20 n20 c20 0 by rw [← HE26.out]; exact RNo.sto HR25hr20.out HQ1x0w8.out rfl _ _)
    have HR25hs20w9 := hJ (show RN x26 t20 B20 m20 d20 1 by rw [← HE26.out]; exact RNo.sto HR25hs20.out HQ1x0w8.out rfl _ _)
    go_wp2
    clear fz26_0 fc26_0 fz26_1 fc26_1 fz26_2 fc26_2 fz26_3 fc26_3 hx26
    exact bodyPost_ret (results_cell1 rfl _ _ _ _ _ _ _ rfl HQ26s.out Tryz.underlying41 rfl (by kernel_rfl)) rfl (by rw [HR.out.1, HR.out.2.1, HR.out.2.2]; exact ⟨s20, A20, n20, c20, t20, B20, m20, d20, rfl, HR25hr20w9.out, HR25hs20w9.out, HC0_9.out⟩)
   ·have HR := hJ (HBD.out h4)
    have HMC := hJ (show mkC (psV b) = 0 from if_neg h3)
    have HTB := hJ (show (fracT (mkP (psV a) (psV b)) (mkQ (psV a) (psV b)) == l) = false from beq_eq_false_iff_ne.2 (fun e => h4 ((HTX.out h1 h2 h3).1 e)))
    have HCA := hJ h1
    have HCB := hJ h2
    clear h1 h2
    clear h3 h4
    go_wp2_with fail
    rw [HA.out, HB.out]
    refine (rparse_any a x1 HLA.out).mono ?_
    rw [HCA.out]
    rintro e w27 ⟨s21, A21, n21, c21, rfl, hr21, hb⟩
    have HB27 := hJ hb
    have HR27hr21 := hJ hr21
    clear hb hr21
    obtain ⟨x28, hx28⟩ := nmz (w27.alloc (.cells #[.bool s21, .slice A21 n21 c21] 24))
    have HB28 := hJ (show Below w27.heap.size w27 x28 by rw [← hx28]; exact ((Below.refl _ _).alloc (Nat.le_refl _) _))
    have HQ28x0 := hJ (show BX 24 x28 w27.heap.size #[.bool s21, .slice A21 n21 c21] by rw [← hx28]; exact (BX.at rfl))
    have HG28x0 := hJ (show w27.heap.size ≤ w27.heap.size by omega)
    have HL28x0 := hJ (show w27.heap.size < x28.heap.size from HQ28x0.out.lt)
    go_wp2_with fail
    clear hx28
    refine (rparse_any b x28 HLB.out).mono ?_
    rw [HCB.out]
    rintro e w29 ⟨s22, A22, n22, c22, rfl, hr22, hb⟩
    have HB29 := hJ hb
    have HR29hr22 := hJ hr22
    clear hb hr22
    obtain ⟨x30, hx30⟩ := nmz (w29.alloc (.cells #[.bool s22, .slice A22 n22 c22] 24))
    have HB30 := hJ (show Below w29.heap.size w29 x30 by rw [← hx30]; exact ((Below.refl _ _).alloc (Nat.le_refl _) _))
    have HQ30x0 := hJ (show BX 24 x30 w29.heap.size #[.bool s22, .slice A22 n22 c22] by rw [← hx30]; exact (BX.at rfl))
    have HG30x0 := hJ (show w29.heap.size ≤ w29.heap.size by omega)
    have HL30x0 := hJ (show w29.heap.size < x30.heap.size from HQ30x0.out.lt)
    have HC3_5 := hJ (bt HB29.out HB30.out)
    have HQ28x0w5 := hJ (BX.new HQ28x0.out HC3_5.out)
    obtain ⟨cl31, cl32⟩ := HQ28x0w5.out.c2 0 1 rfl rfl
    obtain ⟨cl33, cl34⟩ := HQ30x0.out.c2 0 1 rfl rfl
    have HC2_5 := hJ (bt (bt HB28.out HB29.out) HB30.out)
    have HR27hr21w5 := hJ (RNo.new HR27hr21.out HC2_5.out)
    have HR29hr22w5 := hJ (RNo.new HR29hr22.out HB30.out)
    go_wp2_with fail
    clear hx30 cl31 cl32 cl33 cl34
    refine (r4make_any (psV a) (psV b) (32 * limE) s21 A21 n21 c21 s22 A22 n22 c22 x30 HR27hr21w5.out HR29hr22w5.out (by decide) (lim_b2 (ps_lim a)) (lim_b2 (ps_lim b))).mono ?_
    rw [HMC.out]
    rintro e w35 ⟨s23, A23, n23, c23, t23, B23, m23, d23, rfl, hr23, hs23, hb⟩
    have HB35 := hJ hb
    have HR35hr23 := hJ hr23
    have HR35hs23 := hJ hs23
    clear hb hr23 hs23
    obtain ⟨x36, hx36⟩ := nmz (w35.alloc (.cells #[.bool s23, .slice A23 n23 c23, .bool t23, .slice B23 m23 d23] 41))
    have HB36 := hJ (show Below w35.heap.size w35 x36 by rw [← hx36]; exact ((Below.refl _ _).alloc (Nat.le_refl _) _))
    have HQ36x0 := hJ (show BX 41 x36 w35.heap.size #[.bool s23, .slice A23 n23 c23, .bool t23, .slice B23 m23 d23] by rw [← hx36]; exact (BX.at rfl))
    have HG36x0 := hJ (show w35.heap.size ≤ w35.heap.size by omega)
    have HL36x0 := hJ (show w35.heap.size < x36.heap.size from HQ36x0.out.lt)
    obtain ⟨cl37, cl38, cl39, cl40⟩ := HQ36x0.out.c4 0 1 2 3 rfl rfl rfl rfl
    obtain ⟨T, hT⟩ := nmz (fracT (mkP (psV a) (psV b)) (mkQ (psV a) (psV b)))
    have HT := hJ hT
    have HTL := hJ (show (T == l) = false by rw [← hT]; exact HTB.out)
    clear hT
    have HR35hr23w7 := hJ (RNo.new HR35hr23.out HB36.out)
    have HR35hs23w7 := hJ (RNo.new HR35hs23.out HB36.out)
    go_wp2_with fail
    clear hx36 cl37 cl38 cl39 cl40
    refine (r4text_any (mkP (psV a) (psV b)) (mkQ (psV a) (psV b)) s23 A23 n23 c23 t23 B23 m23 d23 x36 HR35hr23w7.out HR35hs23w7.out (fr_mk (ps_lim a) (ps_lim b)).2.1 (fr_mk (ps_lim a) (ps_lim b)).2.2).mono ?_
    rw [HT.out]
    rintro e w41 ⟨rfl, hb⟩
    have HB41 := hJ hb
    clear hb
    have htb := HTL.out
    go_wp2_with fail
    clear htb
    refine (r4of_any 0 w41 (by decide)).mono ?_
    rintro e w42 ⟨s24, A24, n24, c24, t24, B24, m24, d24, rfl, hr24, hs24, hb⟩
    have HB42 := hJ hb
    have HR42hr24 := hJ hr24
    have HR42hs24 := hJ hs24
    clear hb hr24 hs24
    have HC1_9 := hJ (bt (bt (bt (bt (bt (bt (bt HB27.out HB28.out) HB29.out) HB30.out) HB35.out) HB36.out) HB41.out) HB42.out)
    have HQ1x0w9 := hJ (BX.new HQ1x0.out HC1_9.out)
    have fz43_0 := HQ1x0w9.out.frozen 0
    have fc43_0 := HQ1x0w9.out.cell 0 rfl
    have fz43_1 := HQ1x0w9.out.frozen 1
    have fc43_1 := HQ1x0w9.out.cell 1 rfl
    have fz43_2 := HQ1x0w9.out.frozen 2
    have fc43_2 := HQ1x0w9.out.cell 2 rfl
    have fz43_3 := HQ1x0w9.out.frozen 3
    have fc43_3 := HQ1x0w9.out.cell 3 rfl
    obtain ⟨x43, hx43⟩ := nmz (World.setCell (World.setCell (World.setCell (World.setCell w42 ⟨w.heap.size, 0, none⟩ (.bool s24)) ⟨w.heap.size, 1, none⟩ (.slice A24 n24 c24)) ⟨w.heap.size, 2, none⟩ (.bool t24)) ⟨w.heap.size, 3, none⟩ (.slice B24 m24 d24))
    have HE43 := hJ (show sto w42 w.heap.size 0 [.bool s24, .slice A24 n24 c24, .bool t24, .slice B24 m24 d24] = x43 from hx43)
    have HQ43s := hJ (show BX 41 x43 w.heap.size #[.bool s24, .slice A24 n24 c24, .bool t24, .slice B24 m24 d24] by rw [← HE43.out]; exact BX.put HQ1x0w9.out _ _)
    have HC0_10 := hJ (show Below w.heap.size w x43 by rw [← HE43.out]; exact below_sto (bt (bt (bt (bt (bt (bt (bt (bt HB1.out HB27.out) HB28.out) HB29.out) HB30.out) HB35.out) HB36.out) HB41.out) HB42.out) HG1x0.out _ _)
    have HR42hr24w10 := hJ (show RN x43 s24 A24 n24 c24 0 by rw [← HE43.out]; exact RNo.sto HR42hr24.out HQ1x0w9.out rfl _ _)
    have HR42hs24w10 := hJ (show RN x43 t24 B24 m24 d24 1 by rw [← HE43.out]; exact RNo.sto HR42hs24.out HQ1x0w9.out rfl _ _)
    go_wp2
    clear fz43_0 fc43_0 fz43_1 fc43_1 fz43_2 fc43_2 fz43_3 fc43_3 hx43
    exact bodyPost_ret (results_cell1 rfl _ _ _ _ _ _ _ rfl HQ43s.out Tryz.underlying41 rfl (by kernel_rfl)) rfl (by rw [HR.out.1, HR.out.2.1, HR.out.2.2]; exact ⟨s24, A24, n24, c24, t24, B24, m24, d24, rfl, HR42hr24w10.out, HR42hs24w10.out, HC0_10.out⟩)
   ·have HK := hJ hk
    have HR := hJ (HGD.out hk)
    have h3 : psV b ≠ 0 := by have := hk.2.2.1; omega
    have HMC := hJ (show mkC (psV b) = 0 from if_neg h3)
    have HSF := hJ (mk_self (p := psV a) (q := psV b) ⟨hk.2.2.1, hk.2.2.2.2⟩)
    have HTB := hJ (show (fracT (psV a) (psV b) == l) = true by have := (HTX.out hk.1 hk.2.1 h3).2 hk; rw [HSF.out.1, HSF.out.2] at this; rw [this]; simp)
    have HCA := hJ hk.1
    have HCB := hJ hk.2.1
    clear h3 hk
    go_wp2_with fail
    rw [HA.out, HB.out]
    refine (rparse_any a x1 HLA.out).mono ?_
    rw [HCA.out]
    rintro e w44 ⟨s25, A25, n25, c25, rfl, hr25, hb⟩
    have HB44 := hJ hb
    have HR44hr25 := hJ hr25
    clear hb hr25
    obtain ⟨x45, hx45⟩ := nmz (w44.alloc (.cells #[.bool s25, .slice A25 n25 c25] 24))
    have HB45 := hJ (show Below w44.heap.size w44 x45 by rw [← hx45]; exact ((Below.refl _ _).alloc (Nat.le_refl _) _))
    have HQ45x0 := hJ (show BX 24 x45 w44.heap.size #[.bool s25, .slice A25 n25 c25] by rw [← hx45]; exact (BX.at rfl))
    have HG45x0 := hJ (show w44.heap.size ≤ w44.heap.size by omega)
    have HL45x0 := hJ (show w44.heap.size < x45.heap.size from HQ45x0.out.lt)
    go_wp2_with fail
    clear hx45
    refine (rparse_any b x45 HLB.out).mono ?_
    rw [HCB.out]
    rintro e w46 ⟨s26, A26, n26, c26, rfl, hr26, hb⟩
    have HB46 := hJ hb
    have HR46hr26 := hJ hr26
    clear hb hr26
    obtain ⟨x47, hx47⟩ := nmz (w46.alloc (.cells #[.bool s26, .slice A26 n26 c26] 24))
    have HB47 := hJ (show Below w46.heap.size w46 x47 by rw [← hx47]; exact ((Below.refl _ _).alloc (Nat.le_refl _) _))
    have HQ47x0 := hJ (show BX 24 x47 w46.heap.size #[.bool s26, .slice A26 n26 c26] by rw [← hx47]; exact (BX.at rfl))
    have HG47x0 := hJ (show w46.heap.size ≤ w46.heap.size by omega)
    have HL47x0 := hJ (show w46.heap.size < x47.heap.size from HQ47x0.out.lt)
    have HC3_5 := hJ (bt HB46.out HB47.out)
    have HQ45x0w5 := hJ (BX.new HQ45x0.out HC3_5.out)
    obtain ⟨cl48, cl49⟩ := HQ45x0w5.out.c2 0 1 rfl rfl
    obtain ⟨cl50, cl51⟩ := HQ47x0.out.c2 0 1 rfl rfl
    have HC2_5 := hJ (bt (bt HB45.out HB46.out) HB47.out)
    have HR44hr25w5 := hJ (RNo.new HR44hr25.out HC2_5.out)
    have HR46hr26w5 := hJ (RNo.new HR46hr26.out HB47.out)
    go_wp2_with fail
    clear hx47 cl48 cl49 cl50 cl51
    refine (r4make_any (psV a) (psV b) (32 * limE) s25 A25 n25 c25 s26 A26 n26 c26 x47 HR44hr25w5.out HR46hr26w5.out (by decide) (lim_b2 (⟨⟨HK.out.2.2.1, HK.out.2.2.2.2⟩, ps_lim a, ps_lim b⟩ : Fr _ _).2.1) (lim_b2 (⟨⟨HK.out.2.2.1, HK.out.2.2.2.2⟩, ps_lim a, ps_lim b⟩ : Fr _ _).2.2)).mono ?_
    rw [HSF.out.1, HSF.out.2, HMC.out]
    rintro e w52 ⟨s27, A27, n27, c27, t27, B27, m27, d27, rfl, hr27, hs27, hb⟩
    have HB52 := hJ hb
    have HR52hr27 := hJ hr27
    have HR52hs27 := hJ hs27
    clear hb hr27 hs27
    obtain ⟨x53, hx53⟩ := nmz (w52.alloc (.cells #[.bool s27, .slice A27 n27 c27, .bool t27, .slice B27 m27 d27] 41))
    have HB53 := hJ (show Below w52.heap.size w52 x53 by rw [← hx53]; exact ((Below.refl _ _).alloc (Nat.le_refl _) _))
    have HQ53x0 := hJ (show BX 41 x53 w52.heap.size #[.bool s27, .slice A27 n27 c27, .bool t27, .slice B27 m27 d27] by rw [← hx53]; exact (BX.at rfl))
    have HG53x0 := hJ (show w52.heap.size ≤ w52.heap.size by omega)
    have HL53x0 := hJ (show w52.heap.size < x53.heap.size from HQ53x0.out.lt)
    obtain ⟨cl54, cl55, cl56, cl57⟩ := HQ53x0.out.c4 0 1 2 3 rfl rfl rfl rfl
    obtain ⟨T, hT⟩ := nmz (fracT (psV a) (psV b))
    have HT := hJ hT
    have HTL := hJ (show (T == l) = true by rw [← hT]; exact HTB.out)
    clear hT
    have HR52hr27w7 := hJ (RNo.new HR52hr27.out HB53.out)
    have HR52hs27w7 := hJ (RNo.new HR52hs27.out HB53.out)
    go_wp2_with fail
    clear hx53 cl54 cl55 cl56 cl57
    refine (r4text_any (psV a) (psV b) s27 A27 n27 c27 t27 B27 m27 d27 x53 HR52hr27w7.out HR52hs27w7.out (⟨⟨HK.out.2.2.1, HK.out.2.2.2.2⟩, ps_lim a, ps_lim b⟩ : Fr _ _).2.1 (⟨⟨HK.out.2.2.1, HK.out.2.2.2.2⟩, ps_lim a, ps_lim b⟩ : Fr _ _).2.2).mono ?_
    rw [HT.out]
    rintro e w58 ⟨rfl, hb⟩
    have HB58 := hJ hb
    clear hb
    have htb := HTL.out
    have HQ53x0w8 := hJ (BX.new HQ53x0.out HB58.out)
    obtain ⟨cl59, cl60, cl61, cl62⟩ := HQ53x0w8.out.c4 0 1 2 3 rfl rfl rfl rfl
    have HC1_8 := hJ (bt (bt (bt (bt (bt (bt HB44.out HB45.out) HB46.out) HB47.out) HB52.out) HB53.out) HB58.out)
    have HQ1x0w8 := hJ (BX.new HQ1x0.out HC1_8.out)
    have fz63_0 := HQ1x0w8.out.frozen 0
    have fc63_0 := HQ1x0w8.out.cell 0 rfl
    have fz63_1 := HQ1x0w8.out.frozen 1
    have fc63_1 := HQ1x0w8.out.cell 1 rfl
    have fz63_2 := HQ1x0w8.out.frozen 2
    have fc63_2 := HQ1x0w8.out.cell 2 rfl
    have fz63_3 := HQ1x0w8.out.frozen 3
    have fc63_3 := HQ1x0w8.out.cell 3 rfl
    obtain ⟨x63, hx63⟩ := nmz (World.setCell (World.setCell (World.setCell (World.setCell w58 ⟨w.heap.size, 0, none⟩ (.bool s27)) ⟨w.heap.size, 1, none⟩ (.slice A27 n27 c27)) ⟨w.heap.size, 2, none⟩ (.bool t27)) ⟨w.heap.size, 3, none⟩ (.slice B27 m27 d27))
    have HE63 := hJ (show sto w58 w.heap.size 0 [.bool s27, .slice A27 n27 c27, .bool t27, .slice B27 m27 d27] = x63 from hx63)
    have HQ63s := hJ (show BX 41 x63 w.heap.size #[.bool s27, .slice A27 n27 c27, .bool t27, .slice B27 m27 d27] by rw [← HE63.out]; exact BX.put HQ1x0w8.out _ _)
    have HC0_9 := hJ (show Below w.heap.size w x63 by rw [← HE63.out]; exact below_sto (bt (bt (bt (bt (bt (bt (bt HB1.out HB44.out) HB45.out) HB46.out) HB47.out) HB52.out) HB53.out) HB58.out) HG1x0.out _ _)
    have HR52hr27w8 := hJ (RNo.new HR52hr27w7.out HB58.out)
    have HR52hr27w9 := hJ (show RN x63 s27 A27 n27 c27 (psV a) by rw [← HE63.out]; exact RNo.sto HR52hr27w8.out HQ1x0w8.out rfl _ _)
    have HR52hs27w8 := hJ (RNo.new HR52hs27w7.out HB58.out)
    have HR52hs27w9 := hJ (show RN x63 t27 B27 m27 d27 (psV b) by rw [← HE63.out]; exact RNo.sto HR52hs27w8.out HQ1x0w8.out rfl _ _)
    go_wp2
    clear htb cl59 cl60 cl61 cl62 fz63_0 fc63_0 fz63_1 fc63_1 fz63_2 fc63_2 fz63_3 fc63_3 hx63
    exact bodyPost_ret (results_cell1 rfl _ _ _ _ _ _ _ rfl HQ63s.out Tryz.underlying41 rfl (by kernel_rfl)) rfl (by rw [HR.out.1, HR.out.2.1, HR.out.2.2]; exact ⟨s27, A27, n27, c27, t27, B27, m27, d27, rfl, HR52hr27w9.out, HR52hs27w9.out, HC0_9.out⟩)
set_option maxRecDepth 100000 in
set_option maxHeartbeats 1600000 in
theorem r4parse_no (l : List UInt8) (w : World) (hs : l.length ≤ 100000) (h : (47 : UInt8) ∉ l) :
  Calls Tryz.prog 55 #[.string ⟨l.toArray⟩] w (RetRE (fqP l) (fqQ l) (fqC l) w) := by
 have HP49 := hJ (show psC [49] = 0 from ps_one.2)
 have HS := hJ hs
 have HAT := hJ (show ∀ (i : Nat) (hi : i < l.length), (((l[i]'hi).toNat : Int) == 47) = false from slash_no h)
 have HNQ := hJ (fq_no h)
 obtain ⟨k, hk⟩ : ∃ k, l.length = k := ⟨_, rfl⟩
 have HLK := hJ hk
 clear h hk
 obtain ⟨x1, hx1⟩ := nmz (w.alloc (.cells #[.bool false, .slice none 0 0, .bool false, .slice none 0 0] 41))
 have HB1 := hJ (show Below w.heap.size w x1 by rw [← hx1]; exact ((Below.refl _ _).alloc (Nat.le_refl _) _))
 have HQ1x0 := hJ (show BX 41 x1 w.heap.size #[.bool false, .slice none 0 0, .bool false, .slice none 0 0] by rw [← hx1]; exact (BX.at rfl))
 have HG1x0 := hJ (show w.heap.size ≤ w.heap.size by omega)
 have HL1x0 := hJ (show w.heap.size < x1.heap.size from HQ1x0.out.lt)
 go_enter Tryz.func55, Tryz.ntmps55
 go_wp2_with fail
 clear hx1
 go_loopw [6, 4, 5] (fun tv kp0 kp1 wr => ∃ i : Nat, i ≤ k ∧ tv = .int .i64 (i : Int) ∧ kp0 = .string ⟨l.toArray⟩ ∧ kp1 = .string ⟨#[49]⟩ ∧ wr = x1) (fun tv _ _ _ => k - (intOf tv).toNat)
 case atStart => exact ⟨0, by omega, rfl, rfl, rfl, rfl⟩
 case round =>
  obtain ⟨i2, hi, rfl, rfl, rfl, rfl⟩ := hrel
  obtain ⟨x1, rfl⟩ : ∃ W, W = wr := ⟨_, rfl⟩
  rcases (show i2 < k ∨ i2 = k by omega) with hlt | rfl
  ·have hll : i2 < l.length := by rw [HLK.out]; exact hlt
   have hat := HAT.out i2 hll
   go_wp2_with fail
   go_roundw
   case rel => exact ⟨i2 + 1, by omega, by go_num, rfl, rfl, by first | rfl | trivial⟩
   case measure => simp [intOf] <;> omega
  ·have hll : ¬ (i2 : Int) < (l.length : Int) := by rw [HLK.out]; omega
   by_cases h1 : psC l = 0
   ·have HR := hJ (show fqP l = psV l ∧ fqQ l = 1 ∧ fqC l = 0 by obtain ⟨e1, e2, e3⟩ := HNQ.out; rw [e1, e2, e3, if_pos h1, if_pos h1]; exact ⟨rfl, rfl, rfl⟩)
    have HTB := hJ (show (fracT (psV l) 1 == l) = true by rw [ps_text0 h1]; simp)
    have HCA := hJ h1
    clear h1
    go_wp2_with fail
    refine (rparse_any l x1 HS.out).mono ?_
    rw [HCA.out]
    rintro e w3 ⟨s11, A11, n11, c11, rfl, hr11, hb⟩
    have HB3 := hJ hb
    have HR3hr11 := hJ hr11
    clear hb hr11
    obtain ⟨x4, hx4⟩ := nmz (w3.alloc (.cells #[.bool s11, .slice A11 n11 c11] 24))
    have HB4 := hJ (show Below w3.heap.size w3 x4 by rw [← hx4]; exact ((Below.refl _ _).alloc (Nat.le_refl _) _))
    have HQ4x0 := hJ (show BX 24 x4 w3.heap.size #[.bool s11, .slice A11 n11 c11] by rw [← hx4]; exact (BX.at rfl))
    have HG4x0 := hJ (show w3.heap.size ≤ w3.heap.size by omega)
    have HL4x0 := hJ (show w3.heap.size < x4.heap.size from HQ4x0.out.lt)
    go_wp2_with fail
    clear hx4
    refine (rparse_any [49] x4 (by decide)).mono ?_
    rw [ps_one.1, HP49.out]
    rintro e w5 ⟨s12, A12, n12, c12, rfl, hr12, hb⟩
    have HB5 := hJ hb
    have HR5hr12 := hJ hr12
    clear hb hr12
    obtain ⟨x6, hx6⟩ := nmz (w5.alloc (.cells #[.bool s12, .slice A12 n12 c12] 24))
    have HB6 := hJ (show Below w5.heap.size w5 x6 by rw [← hx6]; exact ((Below.refl _ _).alloc (Nat.le_refl _) _))
    have HQ6x0 := hJ (show BX 24 x6 w5.heap.size #[.bool s12, .slice A12 n12 c12] by rw [← hx6]; exact (BX.at rfl))
    have HG6x0 := hJ (show w5.heap.size ≤ w5.heap.size by omega)
    have HL6x0 := hJ (show w5.heap.size < x6.heap.size from HQ6x0.out.lt)
    have HC3_5 := hJ (bt HB5.out HB6.out)
    have HQ4x0w5 := hJ (BX.new HQ4x0.out HC3_5.out)
    obtain ⟨cl7, cl8⟩ := HQ4x0w5.out.c2 0 1 rfl rfl
    obtain ⟨cl9, cl10⟩ := HQ6x0.out.c2 0 1 rfl rfl
    have HC2_5 := hJ (bt (bt HB4.out HB5.out) HB6.out)
    have HR3hr11w5 := hJ (RNo.new HR3hr11.out HC2_5.out)
    have HR5hr12w5 := hJ (RNo.new HR5hr12.out HB6.out)
    go_wp2_with fail
    clear hx6 cl7 cl8 cl9 cl10
    refine (r4make_any (psV l) 1 (32 * limE) s11 A11 n11 c11 s12 A12 n12 c12 x6 HR3hr11w5.out HR5hr12w5.out (by decide) (lim_b2 (⟨low_one (psV l), ps_lim l, one_lim⟩ : Fr _ _).2.1) (lim_b2 (⟨low_one (psV l), ps_lim l, one_lim⟩ : Fr _ _).2.2)).mono ?_
    rw [(mk_self (low_one (psV l))).1, (mk_self (low_one (psV l))).2, show mkC 1 = 0 from rfl]
    rintro e w11 ⟨s13, A13, n13, c13, t13, B13, m13, d13, rfl, hr13, hs13, hb⟩
    have HB11 := hJ hb
    have HR11hr13 := hJ hr13
    have HR11hs13 := hJ hs13
    clear hb hr13 hs13
    obtain ⟨x12, hx12⟩ := nmz (w11.alloc (.cells #[.bool s13, .slice A13 n13 c13, .bool t13, .slice B13 m13 d13] 41))
    have HB12 := hJ (show Below w11.heap.size w11 x12 by rw [← hx12]; exact ((Below.refl _ _).alloc (Nat.le_refl _) _))
    have HQ12x0 := hJ (show BX 41 x12 w11.heap.size #[.bool s13, .slice A13 n13 c13, .bool t13, .slice B13 m13 d13] by rw [← hx12]; exact (BX.at rfl))
    have HG12x0 := hJ (show w11.heap.size ≤ w11.heap.size by omega)
    have HL12x0 := hJ (show w11.heap.size < x12.heap.size from HQ12x0.out.lt)
    obtain ⟨cl13, cl14, cl15, cl16⟩ := HQ12x0.out.c4 0 1 2 3 rfl rfl rfl rfl
    obtain ⟨T, hT⟩ := nmz (fracT (psV l) 1)
    have HT := hJ hT
    have HTL := hJ (show (T == l) = true by rw [← hT]; exact HTB.out)
    clear hT
    have HR11hr13w7 := hJ (RNo.new HR11hr13.out HB12.out)
    have HR11hs13w7 := hJ (RNo.new HR11hs13.out HB12.out)
    go_wp2_with fail
    clear hx12 cl13 cl14 cl15 cl16
    refine (r4text_any (psV l) 1 s13 A13 n13 c13 t13 B13 m13 d13 x12 HR11hr13w7.out HR11hs13w7.out (⟨low_one (psV l), ps_lim l, one_lim⟩ : Fr _ _).2.1 (⟨low_one (psV l), ps_lim l, one_lim⟩ : Fr _ _).2.2).mono ?_
    rw [HT.out]
    rintro e w17 ⟨rfl, hb⟩
    have HB17 := hJ hb
    clear hb
    have htb := HTL.out
    have HQ12x0w8 := hJ (BX.new HQ12x0.out HB17.out)
    obtain ⟨cl18, cl19, cl20, cl21⟩ := HQ12x0w8.out.c4 0 1 2 3 rfl rfl rfl rfl
    have HC1_8 := hJ (bt (bt (bt (bt (bt (bt HB3.out HB4.out) HB5.out) HB6.out) HB11.out) HB12.out) HB17.out)
    have HQ1x0w8 := hJ (BX.new HQ1x0.out HC1_8.out)
    have fz22_0 := HQ1x0w8.out.frozen 0
    have fc22_0 := HQ1x0w8.out.cell 0 rfl
    have fz22_1 := HQ1x0w8.out.frozen 1
    have fc22_1 := HQ1x0w8.out.cell 1 rfl
    have fz22_2 := HQ1x0w8.out.frozen 2
    have fc22_2 := HQ1x0w8.out.cell 2 rfl
    have fz22_3 := HQ1x0w8.out.frozen 3
    have fc22_3 := HQ1x0w8.out.cell 3 rfl
    obtain ⟨x22, hx22⟩ := nmz (World.setCell (World.setCell (World.setCell (World.setCell w17 ⟨w.heap.size, 0, none⟩ (.bool s13)) ⟨w.heap.size, 1, none⟩ (.slice A13 n13 c13)) ⟨w.heap.size, 2, none⟩ (.bool t13)) ⟨w.heap.size, 3, none⟩ (.slice B13 m13 d13))
    have HE22 := hJ (show sto w17 w.heap.size 0 [.bool s13, .slice A13 n13 c13, .bool t13, .slice B13 m13 d13] = x22 from hx22)
    have HQ22s := hJ (show BX 41 x22 w.heap.size #[.bool s13, .slice A13 n13 c13, .bool t13, .slice B13 m13 d13] by rw [← HE22.out]; exact BX.put HQ1x0w8.out _ _)
    have HC0_9 := hJ (show Below w.heap.size w x22 by rw [← HE22.out]; exact below_sto (bt (bt (bt (bt (bt (bt (bt HB1.out HB3.out) HB4.out) HB5.out) HB6.out) HB11.out) HB12.out) HB17.out) HG1x0.out _ _)
    have HR11hr13w8 := hJ (RNo.new HR11hr13w7.out HB17.out)
    have HR11hr13w9 := hJ (show RN x22 s13 A13 n13 c13 (psV l) by rw [← HE22.out]; exact RNo.sto HR11hr13w8.out HQ1x0w8.out rfl _ _)
    have HR11hs13w8 := hJ (RNo.new HR11hs13w7.out HB17.out)
    have HR11hs13w9 := hJ (show RN x22 t13 B13 m13 d13 1 by rw [← HE22.out]; exact RNo.sto HR11hs13w8.out HQ1x0w8.out rfl _ _)
    go_wp2
    clear htb cl18 cl19 cl20 cl21 fz22_0 fc22_0 fz22_1 fc22_1 fz22_2 fc22_2 fz22_3 fc22_3 hx22
    exact bodyPost_ret (results_cell1 rfl _ _ _ _ _ _ _ rfl HQ22s.out Tryz.underlying41 rfl (by kernel_rfl)) rfl (by rw [HR.out.1, HR.out.2.1, HR.out.2.2]; exact ⟨s13, A13, n13, c13, t13, B13, m13, d13, rfl, HR11hr13w9.out, HR11hs13w9.out, HC0_9.out⟩)
   ·have HR := hJ (show fqP l = 0 ∧ fqQ l = 1 ∧ fqC l = 2 by obtain ⟨e1, e2, e3⟩ := HNQ.out; rw [e1, e2, e3, if_neg h1, if_neg h1]; exact ⟨rfl, rfl, rfl⟩)
    obtain ⟨ca, hca⟩ := nmz (psC l)
    have HCA := hJ hca
    rw [hca] at h1
    clear hca
    go_wp2_with fail
    refine (rparse_any l x1 HS.out).mono ?_
    rw [HCA.out]
    rintro e w23 ⟨s14, A14, n14, c14, rfl, hr14, hb⟩
    have HB23 := hJ hb
    have HR23hr14 := hJ hr14
    clear hb hr14
    obtain ⟨x24, hx24⟩ := nmz (w23.alloc (.cells #[.bool s14, .slice A14 n14 c14] 24))
    have HB24 := hJ (show Below w23.heap.size w23 x24 by rw [← hx24]; exact ((Below.refl _ _).alloc (Nat.le_refl _) _))
    have HQ24x0 := hJ (show BX 24 x24 w23.heap.size #[.bool s14, .slice A14 n14 c14] by rw [← hx24]; exact (BX.at rfl))
    have HG24x0 := hJ (show w23.heap.size ≤ w23.heap.size by omega)
    have HL24x0 := hJ (show w23.heap.size < x24.heap.size from HQ24x0.out.lt)
    go_wp2_with fail
    clear hx24
    refine (rparse_any [49] x24 (by decide)).mono ?_
    rw [ps_one.1, HP49.out]
    rintro e w25 ⟨s15, A15, n15, c15, rfl, hr15, hb⟩
    have HB25 := hJ hb
    have HR25hr15 := hJ hr15
    clear hb hr15
    obtain ⟨x26, hx26⟩ := nmz (w25.alloc (.cells #[.bool s15, .slice A15 n15 c15] 24))
    have HB26 := hJ (show Below w25.heap.size w25 x26 by rw [← hx26]; exact ((Below.refl _ _).alloc (Nat.le_refl _) _))
    have HQ26x0 := hJ (show BX 24 x26 w25.heap.size #[.bool s15, .slice A15 n15 c15] by rw [← hx26]; exact (BX.at rfl))
    have HG26x0 := hJ (show w25.heap.size ≤ w25.heap.size by omega)
    have HL26x0 := hJ (show w25.heap.size < x26.heap.size from HQ26x0.out.lt)
    go_wp2_with fail
    clear hx26
    refine (r4of_any 0 x26 (by decide)).mono ?_
    rintro e w27 ⟨s16, A16, n16, c16, t16, B16, m16, d16, rfl, hr16, hs16, hb⟩
    have HB27 := hJ hb
    have HR27hr16 := hJ hr16
    have HR27hs16 := hJ hs16
    clear hb hr16 hs16
    have HC1_6 := hJ (bt (bt (bt (bt HB23.out HB24.out) HB25.out) HB26.out) HB27.out)
    have HQ1x0w6 := hJ (BX.new HQ1x0.out HC1_6.out)
    have fz28_0 := HQ1x0w6.out.frozen 0
    have fc28_0 := HQ1x0w6.out.cell 0 rfl
    have fz28_1 := HQ1x0w6.out.frozen 1
    have fc28_1 := HQ1x0w6.out.cell 1 rfl
    have fz28_2 := HQ1x0w6.out.frozen 2
    have fc28_2 := HQ1x0w6.out.cell 2 rfl
    have fz28_3 := HQ1x0w6.out.frozen 3
    have fc28_3 := HQ1x0w6.out.cell 3 rfl
    obtain ⟨x28, hx28⟩ := nmz (World.setCell (World.setCell (World.setCell (World.setCell w27 ⟨w.heap.size, 0, none⟩ (.bool s16)) ⟨w.heap.size, 1, none⟩ (.slice A16 n16 c16)) ⟨w.heap.size, 2, none⟩ (.bool t16)) ⟨w.heap.size, 3, none⟩ (.slice B16 m16 d16))
    have HE28 := hJ (show sto w27 w.heap.size 0 [.bool s16, .slice A16 n16 c16, .bool t16, .slice B16 m16 d16] = x28 from hx28)
    have HQ28s := hJ (show BX 41 x28 w.heap.size #[.bool s16, .slice A16 n16 c16, .bool t16, .slice B16 m16 d16] by rw [← HE28.out]; exact BX.put HQ1x0w6.out _ _)
    have HC0_7 := hJ (show Below w.heap.size w x28 by rw [← HE28.out]; exact below_sto (bt (bt (bt (bt (bt HB1.out HB23.out) HB24.out) HB25.out) HB26.out) HB27.out) HG1x0.out _ _)
    have HR27hr16w7 := hJ (show RN x28 s16 A16 n16 c16 0 by rw [← HE28.out]; exact RNo.sto HR27hr16.out HQ1x0w6.out rfl _ _)
    have HR27hs16w7 := hJ (show RN x28 t16 B16 m16 d16 1 by rw [← HE28.out]; exact RNo.sto HR27hs16.out HQ1x0w6.out rfl _ _)
    go_wp2
    clear fz28_0 fc28_0 fz28_1 fc28_1 fz28_2 fc28_2 fz28_3 fc28_3 hx28
    exact bodyPost_ret (results_cell1 rfl _ _ _ _ _ _ _ rfl HQ28s.out Tryz.underlying41 rfl (by kernel_rfl)) rfl (by rw [HR.out.1, HR.out.2.1, HR.out.2.2]; exact ⟨s16, A16, n16, c16, t16, B16, m16, d16, rfl, HR27hr16w7.out, HR27hs16w7.out, HC0_7.out⟩)
theorem r4parse_any (l : List UInt8) (w : World) (hs : l.length ≤ 100000) :
  Calls Tryz.prog 55 #[.string ⟨l.toArray⟩] w (RetRE (fqP l) (fqQ l) (fqC l) w) := by
 rcases slash_cases l with h | ⟨a, b, rfl, h⟩
 ·exact r4parse_no l w hs h
 ·exact r4parse_yes a b w hs h
end Go.Proofs.YtbhnaffbgggabaaGreat
