/- The walk of the law FracWritten. -/
import Derived.Test.YtbhnaffbgggabaaGreatAD
import Derived.Test.YtbhnaffbgggabaaGreatAG
import Derived.Test.YtbhnaffbgggabaaGreatVF
import Derived.Test.YtbhnaffbgggabaaGreatFF
import Derived.Test.YtbhnaffbgggabaaGreatGR
import Derived.Test.YtbhnaffbgggabaaGreatGH
import Derived.Laws.BytesArg
import Derived.Lib.ConvBytes
namespace Go.Proofs.YtbhnaffbgggabaaGreat
open Go.RowKit
attribute [local go_sem ↓] Go.wp_at_zero Go.wp_at_succ
set_option linter.unusedVariables false
set_option linter.unusedSimpArgs false
theorem fracT_len2 {p q : Int} (hp : p.natAbs < lim) (hq : q.natAbs < lim) : (fracT p q).length ≤ 10001 := by
 have h1 := decI_short (lim_big hp)
 have h2 := decI_short (lim_big hq)
 unfold fracT
 split
 ·omega
 ·simp; omega
/-- A text is read back. -/
theorem fq_text2 {p q : Int} (h : Fr p q) : fqP (fracT p q) = p ∧ fqQ (fracT p q) = q ∧ fqC (fracT p q) = 0 := by
 obtain ⟨h1, h2, h3⟩ := h
 have e1 := ps_decI (lim_big h2)
 rw [in_lim h2 |>.1, in_lim h2 |>.2] at e1
 have e2 := ps_decI (lim_big h3)
 rw [in_lim h3 |>.1, in_lim h3 |>.2] at e2
 unfold fracT
 split
 ·rename_i hq
  obtain ⟨g1, g2, g3⟩ := fq_no (dec_slash p)
  rw [g1, g2, g3, if_pos e1.2, if_pos e1.2, e1.1, hq]
  exact ⟨rfl, rfl, rfl⟩
 ·rename_i hq
  obtain ⟨g1, g2, g3⟩ := fq_good (b := decI q) (dec_slash p) ⟨e1.2, e2.2, by rw [e2.1]; exact h1.1, by rw [e2.1]; exact hq, by rw [e1.1, e2.1]; exact h1.2⟩
  rw [g1, g2, g3, e1.1, e2.1]
  exact ⟨rfl, rfl, rfl⟩
theorem wr_bx {w : World} {g : Nat} (h : BX 77 w g #[.slice none 0 0]) : Wr w g [] := ⟨none, 0, h, World.ownsRow_nil _ _ _ _⟩
theorem rd_cell {T : TypeId} {w : World} {g : Nat} {ok : Nat → Prop} {s : St} (hr : Rdr T w g ok s) (o : Nat) (x : Int) : w.cell? ⟨g, o, none⟩ ≠ some (.int .u32 x) := by
 obtain ⟨a, n, c, l, hr, _⟩ := hr
 unfold R2 at hr
 simp only [World.cell?, hr]
 match o with
 | 0 => simp
 | 1 => simp
 | o + 2 => simp
theorem PIo.kpr {ok' : Nat → Prop} {w w' : World} {s : Bool} {A : Option Addr} {n c : Nat} {x : Int} {T : TypeId} {g : Nat} {ok : Nat → Prop} {st : St} (h : PIo ok' w s A n c x) (hr : Rdr T w g ok st) (hk : Own1 g w w') : PIo ok' w' s A n c x :=
 ⟨h.1, h.2.1, h.2.2.apart (tt := (· = g)) hk (fun b e _ o x => by subst e; exact rd_cell hr o x)⟩
theorem PF.kpr {w w' : World} {s s' : Bool} {A A' : Option Addr} {n c n' c' : Nat} {p q : Int} {T : TypeId} {g : Nat} {ok : Nat → Prop} {st : St} (h : PF w s A n c s' A' n' c' p q) (hr : Rdr T w g ok st) (hk : Own1 g w w') : PF w' s A n c s' A' n' c' p q := ⟨PIo.kpr h.1 hr hk, PIo.kpr h.2 hr hk⟩
theorem BX.kpr {t : TypeId} {w w' : World} {b g : Nat} {cs : Array Value} (h : BX t w b cs) (hne : b ≠ g) (hk : Own1 g w w') : BX t w' b cs := (hk.block b h.lt hne).trans h
theorem kp_below {g B : Nat} {w w' : World} (hk : Own1 g w w') (hB : B ≤ w.heap.size) (hg : B ≤ g) : Below B w w' := hk.below hB (fun k e => by subst e; exact hg)
theorem part_one (a b : List UInt8) (h : a.length < 18446744073709551616) : partS ⟨uv a.length ++ a ++ (uv b.length ++ b), 0⟩ = (a, ⟨uv b.length ++ b, 0⟩) := partS_rt a _ h
theorem part_last (b : List UInt8) (h : b.length < 18446744073709551616) : partS ⟨uv b.length ++ b, 0⟩ = (b, ⟨[], 0⟩) := by
 have e := partS_rt b [] h
 rwa [List.append_nil] at e
theorem vl_zero {k : Nat} {P Q x d : Int} (h : Vl k P Q x d) (hx : x = 0) : cmpI P 0 = 0 := by
 have e := h.2.2.2.2
 rw [hx, Int.zero_mul] at e
 rcases Int.mul_eq_zero.1 e with e | e
 ·rw [e]; rfl
 ·exact absurd e h.2.2.2.1
theorem vl_nz {k : Nat} {P Q x d : Int} (h : Vl k P Q x d) (hx : x ≠ 0) : cmpI P 0 ≠ 0 := by
 intro e
 have e1 := h.2.2.2.2
 rw [cmp_nil e, Int.zero_mul] at e1
 rcases Int.mul_eq_zero.1 e1.symm with e1 | e1
 ·exact hx e1
 ·have := h.1.1; omega
set_option maxRecDepth 100000 in
set_option maxHeartbeats 6400000 in
theorem fracWritten_walk (A : Option Addr) (ln c : Nat) (xs : List Int) (w : World) (hg : Got w (.slice A ln c) xs) :
  Calls Tryz.prog 9 #[.slice A ln c] w fun e w' => e = .returned (.bool true) ∧ Below w.heap.size w w' := by
 have HG := hJ hg
 clear hg
 go_enter Tryz.func9, Tryz.ntmps9
 go_wp2_with fail
 refine (r4frac_any A ln c xs 0 w HG.out (by decide) (by decide)).mono ?_
 rintro e w1 ⟨p11, q11, s11, A11, n11, c11, t11, B11, m11, d11, rfl, hr11, hs11, hf11, hb⟩
 have HB1 := hJ hb
 have HR1hr11 := hJ hr11
 have HR1hs11 := hJ hs11
 clear hb hr11 hs11
 have HFR11 := hJ hf11
 clear hf11
 go_wp2_with fail
 refine (l4of_any p11 q11 s11 A11 n11 c11 t11 B11 m11 d11 w1 HR1hr11.out HR1hs11.out HFR11.out.1).mono ?_
 rintro e w2 ⟨s12, A12, n12, c12, t12, B12, m12, d12, rfl, hr12, hb⟩
 have HB2 := hJ hb
 have HR2hr12 := hJ hr12
 clear hb hr12
 obtain ⟨x3, hx3⟩ := nmz (w2.alloc (.cells #[.bool s12, .slice A12 n12 c12, .bool t12, .slice B12 m12 d12] 35))
 have HB3 := hJ (show Below w2.heap.size w2 x3 by rw [← hx3]; exact ((Below.refl _ _).alloc (Nat.le_refl _) _))
 have HQ3x0 := hJ (show BX 35 x3 w2.heap.size #[.bool s12, .slice A12 n12 c12, .bool t12, .slice B12 m12 d12] by rw [← hx3]; exact (BX.at rfl))
 have HG3x0 := hJ (show w2.heap.size ≤ w2.heap.size by omega)
 have HL3x0 := hJ (show w2.heap.size < x3.heap.size from HQ3x0.out.lt)
 have HC0_3 := hJ (bt (bt HB1.out HB2.out) HB3.out)
 have HGw3 := hJ (Got.new HG.out HC0_3.out)
 go_wp2_with fail
 clear hx3
 refine (r4frac_any A ln c xs 4 x3 HGw3.out (by decide) (by decide)).mono ?_
 rintro e w4 ⟨p13, q13, s13, A13, n13, c13, t13, B13, m13, d13, rfl, hr13, hs13, hf13, hb⟩
 have HB4 := hJ hb
 have HR4hr13 := hJ hr13
 have HR4hs13 := hJ hs13
 clear hb hr13 hs13
 have HFR13 := hJ hf13
 clear hf13
 go_wp2_with fail
 refine (l4of_any p13 q13 s13 A13 n13 c13 t13 B13 m13 d13 w4 HR4hr13.out HR4hs13.out HFR13.out.1).mono ?_
 rintro e w5 ⟨s14, A14, n14, c14, t14, B14, m14, d14, rfl, hr14, hb⟩
 have HB5 := hJ hb
 have HR5hr14 := hJ hr14
 clear hb hr14
 obtain ⟨x6, hx6⟩ := nmz (w5.alloc (.cells #[.bool s14, .slice A14 n14 c14, .bool t14, .slice B14 m14 d14] 35))
 have HB6 := hJ (show Below w5.heap.size w5 x6 by rw [← hx6]; exact ((Below.refl _ _).alloc (Nat.le_refl _) _))
 have HQ6x0 := hJ (show BX 35 x6 w5.heap.size #[.bool s14, .slice A14 n14 c14, .bool t14, .slice B14 m14 d14] by rw [← hx6]; exact (BX.at rfl))
 have HG6x0 := hJ (show w5.heap.size ≤ w5.heap.size by omega)
 have HL6x0 := hJ (show w5.heap.size < x6.heap.size from HQ6x0.out.lt)
 obtain ⟨x7, hx7⟩ := nmz (x6.alloc (.cells #[.slice none 0 0] 77))
 have HB7 := hJ (show Below x6.heap.size x6 x7 by rw [← hx7]; exact ((Below.refl _ _).alloc (Nat.le_refl _) _))
 have HQ7x0 := hJ (show BX 77 x7 x6.heap.size #[.slice none 0 0] by rw [← hx7]; exact (BX.at rfl))
 have HG7x0 := hJ (show x6.heap.size ≤ x6.heap.size by omega)
 have HL7x0 := hJ (show x6.heap.size < x7.heap.size from HQ7x0.out.lt)
 have HC3_7 := hJ (bt (bt (bt HB4.out HB5.out) HB6.out) HB7.out)
 have HQ3x0w7 := hJ (BX.new HQ3x0.out HC3_7.out)
 obtain ⟨cl8, cl9, cl10, cl11⟩ := HQ3x0w7.out.c4 0 1 2 3 rfl rfl rfl rfl
 obtain ⟨TA, hTT⟩ := nmz (fracT p11 q11)
 have HTA := hJ hTT
 have HFQTA := hJ (show fqP TA = p11 ∧ fqQ TA = q11 ∧ fqC TA = 0 by rw [← hTT]; exact fq_text2 HFR11.out.1)
 have HLETA := hJ (show TA.length ≤ 10001 by rw [← hTT]; exact fracT_len2 HFR11.out.1.2.1 HFR11.out.1.2.2)
 clear hTT
 have HC2_7 := hJ (bt (bt (bt (bt HB3.out HB4.out) HB5.out) HB6.out) HB7.out)
 have HR2hr12w7 := hJ (PF.new HR2hr12.out HC2_7.out)
 go_wp2_with fail
 clear hx6 hx7 cl8 cl9 cl10 cl11
 refine (fstring_any p11 q11 s12 t12 A12 B12 n12 c12 m12 d12 x7 HR2hr12w7.out HFR11.out.1.2.1 HFR11.out.1.2.2 HFR11.out.1.1.1).mono ?_
 rw [HTA.out]
 rintro e w12 ⟨rfl, hb⟩
 have HB12 := hJ hb
 clear hb
 have HQ7x0w8 := hJ (BX.new HQ7x0.out HB12.out)
 have HC6_8 := hJ (bt HB7.out HB12.out)
 have HC0_6 := hJ (bt (bt (bt HC0_3.out HB4.out) HB5.out) HB6.out)
 have HC1_6 := hJ (bt (bt (bt (bt HB2.out HB3.out) HB4.out) HB5.out) HB6.out)
 have HC2_6 := hJ (bt (bt (bt HB3.out HB4.out) HB5.out) HB6.out)
 have HC3_6 := hJ (bt (bt HB4.out HB5.out) HB6.out)
 have HC4_6 := hJ (bt HB5.out HB6.out)
 go_wp2_with fail
 refine (wtext_any ⟨TA.toArray⟩ x6.heap.size [] w12 (show (ByteArray.mk TA.toArray).size ≤ 20000 by have := HLETA.out; show TA.length ≤ 20000; omega) (wr_bx HQ7x0w8.out) (by simp)).mono ?_
 rintro e w13 ⟨rfl, hwr, hbg⟩
 have HWR13 := hJ (show Wr w13 x6.heap.size (uv TA.length ++ TA) from hwr)
 have HBW13 := hJ (show Below x6.heap.size x6 w13 from Below.trans HC6_8.out hbg)
 clear hwr hbg
 have HBX13_0 := hJ (bt HC0_6.out HBW13.out)
 have HBX13_1 := hJ (bt HC1_6.out HBW13.out)
 have HBX13_2 := hJ (bt HC2_6.out HBW13.out)
 have HBX13_3 := hJ (bt HC3_6.out HBW13.out)
 have HBX13_4 := hJ (bt HC4_6.out HBW13.out)
 have HBX13_5 := hJ (bt HB6.out HBW13.out)
 have HQ6x0w9 := hJ (BX.new HQ6x0.out HBW13.out)
 obtain ⟨cl14, cl15, cl16, cl17⟩ := HQ6x0w9.out.c4 0 1 2 3 rfl rfl rfl rfl
 obtain ⟨TB, hTT⟩ := nmz (fracT p13 q13)
 have HTB := hJ hTT
 have HFQTB := hJ (show fqP TB = p13 ∧ fqQ TB = q13 ∧ fqC TB = 0 by rw [← hTT]; exact fq_text2 HFR13.out.1)
 have HLETB := hJ (show TB.length ≤ 10001 by rw [← hTT]; exact fracT_len2 HFR13.out.1.2.1 HFR13.out.1.2.2)
 clear hTT
 have HR5hr14w9 := hJ (PF.new HR5hr14.out HBX13_5.out)
 go_wp2_with fail
 clear cl14 cl15 cl16 cl17
 refine (fstring_any p13 q13 s14 t14 A14 B14 n14 c14 m14 d14 w13 HR5hr14w9.out HFR13.out.1.2.1 HFR13.out.1.2.2 HFR13.out.1.1.1).mono ?_
 rw [HTB.out]
 rintro e w18 ⟨rfl, hb⟩
 have HB18 := hJ hb
 clear hb
 have HWR19 := hJ (show Wr w18 x6.heap.size (uv TA.length ++ TA) from Wr.new HWR13.out HB18.out)
 have HC6_10 := hJ (bt HBW13.out HB18.out)
 go_wp2_with fail
 refine (wtext_any ⟨TB.toArray⟩ x6.heap.size (uv TA.length ++ TA) w18 (show (ByteArray.mk TB.toArray).size ≤ 20000 by have := HLETB.out; show TB.length ≤ 20000; omega) HWR19.out (by have := HLETA.out; have h1 := uv_len10 (n := TA.length) (by omega); simp only [List.length_append]; omega)).mono ?_
 rintro e w20 ⟨rfl, hwr, hbg⟩
 have HWR20 := hJ (show Wr w20 x6.heap.size (uv TA.length ++ TA ++ (uv TB.length ++ TB)) from hwr)
 have HBW20 := hJ (show Below x6.heap.size x6 w20 from Below.trans HC6_10.out hbg)
 clear hwr hbg
 have HBX20_0 := hJ (bt HC0_6.out HBW20.out)
 have HBX20_1 := hJ (bt HC1_6.out HBW20.out)
 have HBX20_2 := hJ (bt HC2_6.out HBW20.out)
 have HBX20_3 := hJ (bt HC3_6.out HBW20.out)
 have HBX20_4 := hJ (bt HC4_6.out HBW20.out)
 have HBX20_5 := hJ (bt HB6.out HBW20.out)
 go_wp2_with fail
 refine (wdone_any x6.heap.size (uv TA.length ++ TA ++ (uv TB.length ++ TB)) w20 HWR20.out (by have := HLETA.out; have := HLETB.out; have h1 := uv_len10 (n := TA.length) (by omega); have h2 := uv_len10 (n := TB.length) (by omega); simp only [List.length_append]; omega)).mono ?_
 rintro e w21 ⟨ad, cd, rfl, hown, hb⟩
 obtain ⟨nd, hnd⟩ := nmz ((bI (uv TA.length ++ TA ++ (uv TB.length ++ TB))).length)
 rw [hnd] at hown ⊢
 have HND := hJ (show (uv TA.length ++ TA ++ (uv TB.length ++ TB)).length = nd by rw [← hnd, bI_len])
 have HOWN := hJ hown
 have HB21 := hJ hb
 clear hown hnd hb
 go_wp2_with fail
 refine (read_new (uv TA.length ++ TA ++ (uv TB.length ++ TB)) ad nd cd _ w21 HND.out (by have := HND.out; have := HLETA.out; have := HLETB.out; have h1 := uv_len10 (n := TA.length) (by omega); have h2 := uv_len10 (n := TB.length) (by omega); rw [← HND.out]; simp only [List.length_append]; omega) (In.own HOWN.out)).mono ?_
 have HC0_12 := hJ (bt HBX20_0.out HB21.out)
 have HC1_12 := hJ (bt HBX20_1.out HB21.out)
 have HC2_12 := hJ (bt HBX20_2.out HB21.out)
 have HC3_12 := hJ (bt HBX20_3.out HB21.out)
 have HC4_12 := hJ (bt HBX20_4.out HB21.out)
 have HC5_12 := hJ (bt HBX20_5.out HB21.out)
 have HC6_12 := hJ (bt HBW20.out HB21.out)
 rintro e w22 ⟨⟨gr, rfl, hrd, hgr⟩, hb⟩
 obtain ⟨okr, hokr⟩ := nmz ((fun b => w21.heap.size ≤ b ∧ b < gr))
 rw [hokr] at hrd
 have HRD22 := hJ hrd
 have HGR := hJ hgr
 have HB22 := hJ hb
 have HLR := hJ (show gr < w22.heap.size from hrd.lt)
 clear hrd hgr hb hokr
 have HC0_13 := hJ (bt HC0_12.out HB22.out)
 have HC1_13 := hJ (bt HC1_12.out HB22.out)
 have HC2_13 := hJ (bt HC2_12.out HB22.out)
 have HC3_13 := hJ (bt HC3_12.out HB22.out)
 have HC4_13 := hJ (bt HC4_12.out HB22.out)
 have HC5_13 := hJ (bt HC5_12.out HB22.out)
 have HC6_13 := hJ (bt HC6_12.out HB22.out)
 have HC11_13 := hJ (bt HB21.out HB22.out)
 have HPS23 := hJ (part_one TA TB (by have := HLETA.out; omega))
 go_wp2_with fail
 refine (rdtext_any gr okr ⟨(uv TA.length ++ TA ++ (uv TB.length ++ TB)), 0⟩ w22 HRD22.out).mono ?_
 rw [HPS23.out]
 rintro e w24 ⟨rfl, hrd, hk⟩
 have HRD24 := hJ (show Rdr 164 w24 gr okr ⟨uv TB.length ++ TB, 0⟩ from hrd)
 have HK24 := hJ hk
 have HBW24 := hJ (show Below w21.heap.size w21 w24 from Below.trans HB22.out (kp_below HK24.out (HB22.out).size HGR.out))
 clear hrd hk
 have HBX24_0 := hJ (bt HC0_12.out HBW24.out)
 have HBX24_1 := hJ (bt HC1_12.out HBW24.out)
 have HBX24_2 := hJ (bt HC2_12.out HBW24.out)
 have HBX24_3 := hJ (bt HC3_12.out HBW24.out)
 have HBX24_4 := hJ (bt HC4_12.out HBW24.out)
 have HBX24_5 := hJ (bt HC5_12.out HBW24.out)
 have HBX24_6 := hJ (bt HC6_12.out HBW24.out)
 have HBX24_11 := hJ (bt HB21.out HBW24.out)
 have HLR24 := hJ HRD24.out.lt
 go_wp2_with fail
 refine (fparse_any TA w24 (by have := HLETA.out; omega)).mono ?_
 rw [HFQTA.out.1, HFQTA.out.2.1, HFQTA.out.2.2]
 rintro e w25 ⟨s15, A15, n15, c15, t15, B15, m15, d15, rfl, hr15, hb⟩
 have HB25 := hJ hb
 have HR25hr15 := hJ hr15
 clear hb hr15
 obtain ⟨x26, hx26⟩ := nmz (w25.alloc (.cells #[.bool s15, .slice A15 n15 c15, .bool t15, .slice B15 m15 d15] 35))
 have HB26 := hJ (show Below w25.heap.size w25 x26 by rw [← hx26]; exact ((Below.refl _ _).alloc (Nat.le_refl _) _))
 have HQ26x0 := hJ (show BX 35 x26 w25.heap.size #[.bool s15, .slice A15 n15 c15, .bool t15, .slice B15 m15 d15] by rw [← hx26]; exact (BX.at rfl))
 have HG26x0 := hJ (show w25.heap.size ≤ w25.heap.size by omega)
 have HL26x0 := hJ (show w25.heap.size < x26.heap.size from HQ26x0.out.lt)
 have HC14_16 := hJ (bt HB25.out HB26.out)
 have HRD27 := hJ (show Rdr 164 x26 gr okr ⟨uv TB.length ++ TB, 0⟩ from Rdr.new HRD24.out HC14_16.out)
 have HC0_16 := hJ (bt (bt HBX24_0.out HB25.out) HB26.out)
 have HC1_16 := hJ (bt (bt HBX24_1.out HB25.out) HB26.out)
 have HC2_16 := hJ (bt (bt HBX24_2.out HB25.out) HB26.out)
 have HC3_16 := hJ (bt (bt HBX24_3.out HB25.out) HB26.out)
 have HC4_16 := hJ (bt (bt HBX24_4.out HB25.out) HB26.out)
 have HC5_16 := hJ (bt (bt HBX24_5.out HB25.out) HB26.out)
 have HC6_16 := hJ (bt (bt HBX24_6.out HB25.out) HB26.out)
 have HC11_16 := hJ (bt (bt HBX24_11.out HB25.out) HB26.out)
 have HC12_16 := hJ (bt (bt HBW24.out HB25.out) HB26.out)
 have HPS28 := hJ (part_last TB (by have := HLETB.out; omega))
 have HR25hr15w16 := hJ (PF.new HR25hr15.out HB26.out)
 go_wp2_with fail
 clear hx26
 refine (rdtext_any gr okr ⟨uv TB.length ++ TB, 0⟩ x26 HRD27.out).mono ?_
 rw [HPS28.out]
 rintro e w29 ⟨rfl, hrd, hk⟩
 have HRD29 := hJ (show Rdr 164 w29 gr okr ⟨[], 0⟩ from hrd)
 have HK29 := hJ hk
 have HBW29 := hJ (show Below w21.heap.size w21 w29 from Below.trans HC12_16.out (kp_below HK29.out (HC12_16.out).size HGR.out))
 clear hrd hk
 have HBX29_0 := hJ (bt HC0_12.out HBW29.out)
 have HBX29_1 := hJ (bt HC1_12.out HBW29.out)
 have HBX29_2 := hJ (bt HC2_12.out HBW29.out)
 have HBX29_3 := hJ (bt HC3_12.out HBW29.out)
 have HBX29_4 := hJ (bt HC4_12.out HBW29.out)
 have HBX29_5 := hJ (bt HC5_12.out HBW29.out)
 have HBX29_6 := hJ (bt HC6_12.out HBW29.out)
 have HBX29_11 := hJ (bt HB21.out HBW29.out)
 go_wp2_with fail
 refine (fparse_any TB w29 (by have := HLETB.out; omega)).mono ?_
 rw [HFQTB.out.1, HFQTB.out.2.1, HFQTB.out.2.2]
 rintro e w30 ⟨s16, A16, n16, c16, t16, B16, m16, d16, rfl, hr16, hb⟩
 have HB30 := hJ hb
 have HR30hr16 := hJ hr16
 clear hb hr16
 obtain ⟨x31, hx31⟩ := nmz (w30.alloc (.cells #[.bool s16, .slice A16 n16 c16, .bool t16, .slice B16 m16 d16] 35))
 have HB31 := hJ (show Below w30.heap.size w30 x31 by rw [← hx31]; exact ((Below.refl _ _).alloc (Nat.le_refl _) _))
 have HQ31x0 := hJ (show BX 35 x31 w30.heap.size #[.bool s16, .slice A16 n16 c16, .bool t16, .slice B16 m16 d16] by rw [← hx31]; exact (BX.at rfl))
 have HG31x0 := hJ (show w30.heap.size ≤ w30.heap.size by omega)
 have HL31x0 := hJ (show w30.heap.size < x31.heap.size from HQ31x0.out.lt)
 have HC17_19 := hJ (bt HB30.out HB31.out)
 have HRD32 := hJ (show Rdr 164 x31 gr okr ⟨[], 0⟩ from Rdr.new HRD29.out HC17_19.out)
 go_wp2_with fail
 clear hx31
 refine (rdend_any gr okr ⟨[], 0⟩ x31 HRD32.out).mono ?_
 rw [show endS ⟨[], 0⟩ = 0 from rfl]
 rintro e w33 ⟨rfl, rfl⟩
 have HQ26x0w17 := hJ (show BX 35 w29 w25.heap.size #[.bool s15, .slice A15 n15 c15, .bool t15, .slice B15 m15 d15] from BX.kpr HQ26x0.out (show w25.heap.size ≠ gr by have h1 := HLR24.out; have h2 := HG26x0.out; have h3 := (HB25.out).size; omega) HK29.out)
 have HQ26x0w19 := hJ (BX.new HQ26x0w17.out HC17_19.out)
 obtain ⟨cl34, cl35, cl36, cl37⟩ := HQ26x0w19.out.c4 0 1 2 3 rfl rfl rfl rfl
 have HC3_19 := hJ (bt (bt HBX29_3.out HB30.out) HB31.out)
 have HQ3x0w19 := hJ (BX.new HQ3x0.out HC3_19.out)
 obtain ⟨cl38, cl39, cl40, cl41⟩ := HQ3x0w19.out.c4 0 1 2 3 rfl rfl rfl rfl
 have HR25hr15w17 := hJ (show PF w29 s15 A15 n15 c15 t15 B15 m15 d15 p11 q11 from PF.kpr HR25hr15w16.out HRD27.out HK29.out)
 have HR25hr15w19 := hJ (PF.new HR25hr15w17.out HC17_19.out)
 have HC2_19 := hJ (bt (bt HBX29_2.out HB30.out) HB31.out)
 have HR2hr12w19 := hJ (PF.new HR2hr12.out HC2_19.out)
 go_wp2_with fail
 clear cl34 cl35 cl36 cl37 cl38 cl39 cl40 cl41
 refine (l4equal_any p11 q11 p11 q11 s15 t15 s12 t12 A15 B15 A12 B12 n15 c15 m15 d15 n12 c12 m12 d12 x31 HR25hr15w19.out HR2hr12w19.out HFR11.out.1 HFR11.out.1).mono ?_
 rw [eqF_self]
 rintro e w42 ⟨rfl, hb⟩
 have HB42 := hJ hb
 clear hb
 have HQ31x0w20 := hJ (BX.new HQ31x0.out HB42.out)
 obtain ⟨cl43, cl44, cl45, cl46⟩ := HQ31x0w20.out.c4 0 1 2 3 rfl rfl rfl rfl
 have HC6_20 := hJ (bt (bt (bt HBX29_6.out HB30.out) HB31.out) HB42.out)
 have HQ6x0w20 := hJ (BX.new HQ6x0.out HC6_20.out)
 obtain ⟨cl47, cl48, cl49, cl50⟩ := HQ6x0w20.out.c4 0 1 2 3 rfl rfl rfl rfl
 have HC18_20 := hJ (bt HB31.out HB42.out)
 have HR30hr16w20 := hJ (PF.new HR30hr16.out HC18_20.out)
 have HC5_20 := hJ (bt (bt (bt HBX29_5.out HB30.out) HB31.out) HB42.out)
 have HR5hr14w20 := hJ (PF.new HR5hr14.out HC5_20.out)
 go_wp2_with fail
 clear cl43 cl44 cl45 cl46 cl47 cl48 cl49 cl50
 refine (l4equal_any p13 q13 p13 q13 s16 t16 s14 t14 A16 B16 A14 B14 n16 c16 m16 d16 n14 c14 m14 d14 w42 HR30hr16w20.out HR5hr14w20.out HFR13.out.1 HFR13.out.1).mono ?_
 rw [eqF_self]
 rintro e w51 ⟨rfl, hb⟩
 have HB51 := hJ hb
 clear hb
 have HC19_21 := hJ (bt HB42.out HB51.out)
 have HQ26x0w21 := hJ (BX.new HQ26x0w19.out HC19_21.out)
 obtain ⟨cl52, cl53, cl54, cl55⟩ := HQ26x0w21.out.c4 0 1 2 3 rfl rfl rfl rfl
 have HQ31x0w21 := hJ (BX.new HQ31x0w20.out HB51.out)
 obtain ⟨cl56, cl57, cl58, cl59⟩ := HQ31x0w21.out.c4 0 1 2 3 rfl rfl rfl rfl
 have hv := vl_add (vl_self HFR11.out.1.1 HFR11.out.2.1 HFR11.out.2.2) (vl_neg (vl_self HFR13.out.1.1 HFR13.out.2.1 HFR13.out.2.2)) (by decide)
 obtain ⟨P17, hP⟩ := nmz (adP p11 q11 (-p13) q13)
 obtain ⟨Q17, hQ⟩ := nmz (adQ p11 q11 (-p13) q13)
 rw [hP, hQ] at hv
 have HCD17 := hJ hv.1
 have HVL17 := hJ (show Vl 4003 P17 Q17 (p11 * q13 + (-p13) * q11) (q11 * q13) from hv.2)
 have HNP17 := hJ hP
 have HNQ17 := hJ hQ
 clear hv hP hQ
 have HR25hr15w21 := hJ (PF.new HR25hr15w19.out HC19_21.out)
 have HR30hr16w21 := hJ (PF.new HR30hr16w20.out HB51.out)
 go_wp2_with fail
 clear cl52 cl53 cl54 cl55 cl56 cl57 cl58 cl59
 refine (fsub_any p11 q11 p13 q13 s15 t15 s16 t16 A15 B15 A16 B16 n15 c15 m15 d15 n16 c16 m16 d16 w51 HR25hr15w21.out HR30hr16w21.out HFR11.out.1.1.1 HFR13.out.1.1.1 HFR11.out.1.2.1 HFR11.out.1.2.2 HFR13.out.1.2.1 HFR13.out.1.2.2).mono ?_
 rw [HNP17.out, HNQ17.out, HCD17.out]
 rintro e w60 ⟨s18, A18, n18, c18, t18, B18, m18, d18, rfl, hr18, hb⟩
 have HB60 := hJ hb
 have HR60hr18 := hJ hr18
 clear hb hr18
 obtain ⟨x61, hx61⟩ := nmz (w60.alloc (.cells #[.bool s18, .slice A18 n18 c18, .bool t18, .slice B18 m18 d18] 35))
 have HB61 := hJ (show Below w60.heap.size w60 x61 by rw [← hx61]; exact ((Below.refl _ _).alloc (Nat.le_refl _) _))
 have HQ61x0 := hJ (show BX 35 x61 w60.heap.size #[.bool s18, .slice A18 n18 c18, .bool t18, .slice B18 m18 d18] by rw [← hx61]; exact (BX.at rfl))
 have HG61x0 := hJ (show w60.heap.size ≤ w60.heap.size by omega)
 have HL61x0 := hJ (show w60.heap.size < x61.heap.size from HQ61x0.out.lt)
 by_cases he : p11 = p13 ∧ q11 = q13
 ·have HEQF := hJ (show eqF p11 q11 p13 q13 = true from decide_eq_true he)
  have HSGN := hJ (vl_zero HVL17.out (by rw [he.1, he.2, Int.neg_mul]; omega))
  have HTE : Hid (TB = TA) := hJ (by rw [← HTA.out, ← HTB.out, he.1, he.2])
  obtain ⟨hv, hhv⟩ := nmz ((bytesS (⟨#[102, 114, 97, 99]⟩ : ByteArray).data.toList TA).toNat)
  have HHA := hJ hhv
  have HHB := hJ (show (bytesS (⟨#[102, 114, 97, 99]⟩ : ByteArray).data.toList TB).toNat = hv by rw [HTE.out]; exact hhv)
  clear he hhv
  have HC19_23 := hJ (bt (bt HC19_21.out HB60.out) HB61.out)
  have HQ3x0w23 := hJ (BX.new HQ3x0w19.out HC19_23.out)
  obtain ⟨cl62, cl63, cl64, cl65⟩ := HQ3x0w23.out.c4 0 1 2 3 rfl rfl rfl rfl
  have HC20_23 := hJ (bt (bt HB51.out HB60.out) HB61.out)
  have HQ6x0w23 := hJ (BX.new HQ6x0w20.out HC20_23.out)
  obtain ⟨cl66, cl67, cl68, cl69⟩ := HQ6x0w23.out.c4 0 1 2 3 rfl rfl rfl rfl
  have HR2hr12w23 := hJ (PF.new HR2hr12w19.out HC19_23.out)
  have HR5hr14w23 := hJ (PF.new HR5hr14w20.out HC20_23.out)
  go_wp2_with fail
  clear hx61 cl62 cl63 cl64 cl65 cl66 cl67 cl68 cl69
  refine (l4equal_any p11 q11 p13 q13 s12 t12 s14 t14 A12 B12 A14 B14 n12 c12 m12 d12 n14 c14 m14 d14 x61 HR2hr12w23.out HR5hr14w23.out HFR11.out.1 HFR13.out.1).mono ?_
  rw [HEQF.out]
  rintro e w70 ⟨rfl, hb⟩
  have HB70 := hJ hb
  clear hb
  have HQ61x0w24 := hJ (BX.new HQ61x0.out HB70.out)
  have HQ3x0w24 := hJ (BX.new HQ3x0w23.out HB70.out)
  have HQ6x0w24 := hJ (BX.new HQ6x0w23.out HB70.out)
  have HS71 : Hid (∀ w', Below w70.heap.size w70 w' → (fun w' : World => w'.cell? ⟨w60.heap.size, 0, none⟩ = some (.bool s18) ∧ w'.cell? ⟨w60.heap.size, 1, none⟩ = some (.slice A18 n18 c18) ∧ w'.cell? ⟨w60.heap.size, 2, none⟩ = some (.bool t18) ∧ w'.cell? ⟨w60.heap.size, 3, none⟩ = some (.slice B18 m18 d18) ∧ w'.cell? ⟨w2.heap.size, 0, none⟩ = some (.bool s12) ∧ w'.cell? ⟨w2.heap.size, 1, none⟩ = some (.slice A12 n12 c12) ∧ w'.cell? ⟨w2.heap.size, 2, none⟩ = some (.bool t12) ∧ w'.cell? ⟨w2.heap.size, 3, none⟩ = some (.slice B12 m12 d12) ∧ w'.cell? ⟨w5.heap.size, 0, none⟩ = some (.bool s14) ∧ w'.cell? ⟨w5.heap.size, 1, none⟩ = some (.slice A14 n14 c14) ∧ w'.cell? ⟨w5.heap.size, 2, none⟩ = some (.bool t14) ∧ w'.cell? ⟨w5.heap.size, 3, none⟩ = some (.slice B14 m14 d14) ∧ Below w70.heap.size w70 w') w') := hJ (fun w' hb => ⟨(BX.new HQ61x0w24.out hb).cell 0 rfl, (BX.new HQ61x0w24.out hb).cell 1 rfl, (BX.new HQ61x0w24.out hb).cell 2 rfl, (BX.new HQ61x0w24.out hb).cell 3 rfl, (BX.new HQ3x0w24.out hb).cell 0 rfl, (BX.new HQ3x0w24.out hb).cell 1 rfl, (BX.new HQ3x0w24.out hb).cell 2 rfl, (BX.new HQ3x0w24.out hb).cell 3 rfl, (BX.new HQ6x0w24.out hb).cell 0 rfl, (BX.new HQ6x0w24.out hb).cell 1 rfl, (BX.new HQ6x0w24.out hb).cell 2 rfl, (BX.new HQ6x0w24.out hb).cell 3 rfl, hb⟩)
  have HC22_24 := hJ (bt HB61.out HB70.out)
  have HR60hr18w24 := hJ (PF.new HR60hr18.out HC22_24.out)
  have HR2hr12w24 := hJ (PF.new HR2hr12w23.out HB70.out)
  have HR5hr14w24 := hJ (PF.new HR5hr14w23.out HB70.out)
  go_wp2_with fail
  obtain ⟨v71, hv71⟩ := nmz (World.drew w70)
  have HX71 := hJ (show Below w70.heap.size w70 v71 by rw [← hv71]; exact (Below.refl _ _).drew)
  refine wp_region_held_drew (S := (fun w' : World => w'.cell? ⟨w60.heap.size, 0, none⟩ = some (.bool s18) ∧ w'.cell? ⟨w60.heap.size, 1, none⟩ = some (.slice A18 n18 c18) ∧ w'.cell? ⟨w60.heap.size, 2, none⟩ = some (.bool t18) ∧ w'.cell? ⟨w60.heap.size, 3, none⟩ = some (.slice B18 m18 d18) ∧ w'.cell? ⟨w2.heap.size, 0, none⟩ = some (.bool s12) ∧ w'.cell? ⟨w2.heap.size, 1, none⟩ = some (.slice A12 n12 c12) ∧ w'.cell? ⟨w2.heap.size, 2, none⟩ = some (.bool t12) ∧ w'.cell? ⟨w2.heap.size, 3, none⟩ = some (.slice B12 m12 d12) ∧ w'.cell? ⟨w5.heap.size, 0, none⟩ = some (.bool s14) ∧ w'.cell? ⟨w5.heap.size, 1, none⟩ = some (.slice A14 n14 c14) ∧ w'.cell? ⟨w5.heap.size, 2, none⟩ = some (.bool t14) ∧ w'.cell? ⟨w5.heap.size, 3, none⟩ = some (.slice B14 m14 d14) ∧ Below w70.heap.size w70 w')) (by kernel_rfl) ?_ (fun hHeld => ?_)
  ·rw [hv71]
   exact HS71.out _ HX71.out
  rw [hv71] at hHeld ⊢
  clear hv71
  refine tq 0 ?_
  try simp only [PT]
  refine tq 1 ?_
  try simp only [PT]
  refine tq 2 ?_
  try simp only [PT]
  refine tq 3 ?_
  try simp only [PT]
  refine wpAnyH_ready (rs := [4]) (by kernel_rfl) (by simp) ?_
  refine .cons rfl (fun K hK => ?_) .nil
  go_simp
  go_at_call 44
  refine (fsign_any P17 Q17 s18 t18 A18 B18 n18 c18 m18 d18 v71 (PF.new HR60hr18w24.out HX71.out) (vl_fr HVL17.out (by decide)).2.1).mono ?_
  rw [HSGN.out]
  rintro e v72 ⟨rfl, hb⟩
  have HB72 := hJ hb
  clear hb
  go_wp2_with fail
  have HX72 := hJ (bt HX71.out HB72.out)
  clear hHeld
  refine hK.out _ _ (HS71.out _ HX72.out) (fun hHeld => ?_)
  clear hK K
  try simp only [PT]
  refine tq 5 ?_
  try simp only [PT]
  refine tq 6 ?_
  try simp only [PT]
  refine tq 7 ?_
  try simp only [PT]
  refine tq 8 ?_
  try simp only [PT]
  refine tq 12 ?_
  try simp only [PT]
  refine wpAnyH_ready (rs := [9]) (by kernel_rfl) (by simp) ?_
  refine .cons rfl (fun K hK => ?_) .nil
  go_simp
  go_at_call 54
  refine (fstring_any p11 q11 s12 t12 A12 B12 n12 c12 m12 d12 v72 (PF.new HR2hr12w24.out HX72.out) HFR11.out.1.2.1 HFR11.out.1.2.2 HFR11.out.1.1.1).mono ?_
  rw [HTA.out]
  rintro e v73 ⟨rfl, hb⟩
  have HB73 := hJ hb
  clear hb
  go_wp2_with fail
  have HX73 := hJ (bt HX72.out HB73.out)
  clear hHeld
  refine hK.out _ _ (HS71.out _ HX73.out) (fun hHeld => ?_)
  clear hK K
  try simp only [PT]
  refine wpAnyH_ready (rs := [10]) (by kernel_rfl) (by simp) ?_
  refine .cons rfl (fun K hK => ?_) .nil
  obtain ⟨v74, cc15_10, hrun, hbc, hrd⟩ := conv_bytes (P := Tryz.prog) v73 9 72 5 ⟨TA.toArray⟩ Tryz.underlying9 Tryz.underlying72 Tryz.underlying5
  obtain ⟨gg15_10, hg⟩ := nmz (v73.heap.size)
  obtain ⟨nn15_10, hn⟩ := nmz ((ByteArray.mk TA.toArray).size)
  rw [hg, hn] at hrun hrd
  have HNc15_10 := hJ (show nn15_10 = TA.length from hn.symm)
  have HRDc15_10 := hJ (show Rd .u8 v74 v74.heap.size (.slice (some ⟨gg15_10, 0, none⟩) nn15_10 cc15_10) (bI TA) from hrd)
  have HB74 := hJ hbc
  clear hg hn hbc hrd
  go_simp
  have HX74 := hJ (bt HX73.out HB74.out)
  clear hHeld
  refine hK.out _ _ (HS71.out _ HX74.out) (fun hHeld => ?_)
  clear hK K hrun
  try simp only [PT]
  refine wpAnyH_ready (rs := [11]) (by kernel_rfl) (by simp) ?_
  refine .cons rfl (fun K hK => ?_) .nil
  go_simp
  go_at_call 61
  refine (bytes_any ⟨#[102, 114, 97, 99]⟩ TA (some ⟨gg15_10, 0, none⟩) nn15_10 cc15_10 v74.heap.size v74 (by decide) HNc15_10.out (by have := HNc15_10.out; have := HLETA.out; omega) HRDc15_10.out (Nat.le_refl _)).mono ?_
  rw [HHA.out]
  rintro e v75 ⟨rfl, hb⟩
  have HB75 := hJ hb
  clear hb
  go_wp2_with fail
  have HX75 := hJ (bt HX74.out HB75.out)
  clear hHeld
  refine hK.out _ _ (HS71.out _ HX75.out) (fun hHeld => ?_)
  clear hK K
  try simp only [PT]
  refine wpAnyH_ready (rs := [13]) (by kernel_rfl) (by simp) ?_
  refine .cons rfl (fun K hK => ?_) .nil
  go_simp
  go_at_call 54
  refine (fstring_any p13 q13 s14 t14 A14 B14 n14 c14 m14 d14 v75 (PF.new HR5hr14w24.out HX75.out) HFR13.out.1.2.1 HFR13.out.1.2.2 HFR13.out.1.1.1).mono ?_
  rw [HTB.out]
  rintro e v76 ⟨rfl, hb⟩
  have HB76 := hJ hb
  clear hb
  go_wp2_with fail
  have HX76 := hJ (bt HX75.out HB76.out)
  clear hHeld
  refine hK.out _ _ (HS71.out _ HX76.out) (fun hHeld => ?_)
  clear hK K
  try simp only [PT]
  refine wpAnyH_ready (rs := [14]) (by kernel_rfl) (by simp) ?_
  refine .cons rfl (fun K hK => ?_) .nil
  obtain ⟨v77, cc15_14, hrun, hbc, hrd⟩ := conv_bytes (P := Tryz.prog) v76 9 72 5 ⟨TB.toArray⟩ Tryz.underlying9 Tryz.underlying72 Tryz.underlying5
  obtain ⟨gg15_14, hg⟩ := nmz (v76.heap.size)
  obtain ⟨nn15_14, hn⟩ := nmz ((ByteArray.mk TB.toArray).size)
  rw [hg, hn] at hrun hrd
  have HNc15_14 := hJ (show nn15_14 = TB.length from hn.symm)
  have HRDc15_14 := hJ (show Rd .u8 v77 v77.heap.size (.slice (some ⟨gg15_14, 0, none⟩) nn15_14 cc15_14) (bI TB) from hrd)
  have HB77 := hJ hbc
  clear hg hn hbc hrd
  go_simp
  have HX77 := hJ (bt HX76.out HB77.out)
  clear hHeld
  refine hK.out _ _ (HS71.out _ HX77.out) (fun hHeld => ?_)
  clear hK K hrun
  try simp only [PT]
  refine wpAnyH_ready (rs := [15]) (by kernel_rfl) (by simp) ?_
  refine .cons rfl (fun K hK => ?_) .nil
  go_simp
  go_at_call 61
  refine (bytes_any ⟨#[102, 114, 97, 99]⟩ TB (some ⟨gg15_14, 0, none⟩) nn15_14 cc15_14 v77.heap.size v77 (by decide) HNc15_14.out (by have := HNc15_14.out; have := HLETB.out; omega) HRDc15_14.out (Nat.le_refl _)).mono ?_
  rw [HHB.out]
  rintro e v78 ⟨rfl, hb⟩
  have HB78 := hJ hb
  clear hb
  go_wp2_with fail
  have HX78 := hJ (bt HX77.out HB78.out)
  clear hHeld
  refine hK.out _ _ (HS71.out _ HX78.out) (fun hHeld => ?_)
  clear hK K
  try simp only [PT]
  refine tq 16 ?_
  try simp only [PT]
  refine tq 17 ?_
  try simp only [PT]
  refine tq 18 ?_
  try simp only [PT]
  refine wpAnyH_ready (rs := [19]) (by kernel_rfl) (by simp) ?_
  refine .cons rfl (fun K hK => ?_) .nil
  go_simp
  go_at_call 29
  refine (l4lives_any v78).mono ?_
  rintro e v79 ⟨rfl, hb⟩
  have HB79 := hJ hb
  clear hb
  go_wp2_with fail
  have HX79 := hJ (bt HX78.out HB79.out)
  clear hHeld
  refine hK.out _ _ (HS71.out _ HX79.out) (fun hHeld => ?_)
  clear hK K
  try simp only [PT]
  refine tq 20 ?_
  try simp only [PT]
  refine tq 21 ?_
  try simp only [PT]
  refine wpAnyH_done (by kernel_rfl) ?_ _
  clear hHeld
  have HC0_25 := hJ (bt (bt (bt (bt (bt (bt (bt (bt HBX29_0.out HB30.out) HB31.out) HB42.out) HB51.out) HB60.out) HB61.out) HB70.out) HX79.out)
  go_wp2
  go_ret
  exact ⟨by first | rfl | exact congrArg (fun b => Ending.returned (.bool b)) HRB.out, HC0_25.out⟩
 ·have HEQF := hJ (show eqF p11 q11 p13 q13 = false from decide_eq_false he)
  have hcmp : p11 * q13 ≠ p13 * q11 := fun e => he (low_eq HFR11.out.1.1 HFR13.out.1.1 e)
  obtain ⟨cg, hcg⟩ := nmz (cmpI P17 0)
  obtain ⟨cu, hcu⟩ := nmz (cmpI (p11 * q13) (p13 * q11))
  have hcg0 : ¬ cg = 0 := by rw [← hcg]; exact vl_nz HVL17.out (by intro e; rw [Int.neg_mul] at e; exact hcmp (by omega))
  have hcu0 : ¬ cu = 0 := by rw [← hcu]; exact fun e => hcmp (cmp_nil e)
  have HCG := hJ hcg
  have HCU := hJ hcu
  have HRB := hJ (show (cg != 0 && cu != 0) = true by simp [hcg0, hcu0])
  clear he hcmp hcg hcu
  have HC19_23 := hJ (bt (bt HC19_21.out HB60.out) HB61.out)
  have HQ3x0w23 := hJ (BX.new HQ3x0w19.out HC19_23.out)
  obtain ⟨cl80, cl81, cl82, cl83⟩ := HQ3x0w23.out.c4 0 1 2 3 rfl rfl rfl rfl
  have HC20_23 := hJ (bt (bt HB51.out HB60.out) HB61.out)
  have HQ6x0w23 := hJ (BX.new HQ6x0w20.out HC20_23.out)
  obtain ⟨cl84, cl85, cl86, cl87⟩ := HQ6x0w23.out.c4 0 1 2 3 rfl rfl rfl rfl
  have HR2hr12w23 := hJ (PF.new HR2hr12w19.out HC19_23.out)
  have HR5hr14w23 := hJ (PF.new HR5hr14w20.out HC20_23.out)
  go_wp2_with fail
  clear hx61 cl80 cl81 cl82 cl83 cl84 cl85 cl86 cl87
  refine (l4equal_any p11 q11 p13 q13 s12 t12 s14 t14 A12 B12 A14 B14 n12 c12 m12 d12 n14 c14 m14 d14 x61 HR2hr12w23.out HR5hr14w23.out HFR11.out.1 HFR13.out.1).mono ?_
  rw [HEQF.out]
  rintro e w88 ⟨rfl, hb⟩
  have HB88 := hJ hb
  clear hb
  have HQ61x0w24 := hJ (BX.new HQ61x0.out HB88.out)
  obtain ⟨cl89, cl90, cl91, cl92⟩ := HQ61x0w24.out.c4 0 1 2 3 rfl rfl rfl rfl
  have HC22_24 := hJ (bt HB61.out HB88.out)
  have HR60hr18w24 := hJ (PF.new HR60hr18.out HC22_24.out)
  go_wp2_with fail
  clear cl89 cl90 cl91 cl92
  refine (fsign_any P17 Q17 s18 t18 A18 B18 n18 c18 m18 d18 w88 HR60hr18w24.out (vl_fr HVL17.out (by decide)).2.1).mono ?_
  rw [HCG.out]
  rintro e w93 ⟨rfl, hb⟩
  have HB93 := hJ hb
  clear hb
  have HC23_25 := hJ (bt HB88.out HB93.out)
  have HQ3x0w25 := hJ (BX.new HQ3x0w23.out HC23_25.out)
  obtain ⟨cl94, cl95, cl96, cl97⟩ := HQ3x0w25.out.c4 0 1 2 3 rfl rfl rfl rfl
  have HQ6x0w25 := hJ (BX.new HQ6x0w23.out HC23_25.out)
  obtain ⟨cl98, cl99, cl100, cl101⟩ := HQ6x0w25.out.c4 0 1 2 3 rfl rfl rfl rfl
  have HR2hr12w25 := hJ (PF.new HR2hr12w23.out HC23_25.out)
  have HR5hr14w25 := hJ (PF.new HR5hr14w23.out HC23_25.out)
  go_wp2_with fail
  clear cl94 cl95 cl96 cl97 cl98 cl99 cl100 cl101
  refine (fcompare_any p11 q11 p13 q13 s12 t12 s14 t14 A12 B12 A14 B14 n12 c12 m12 d12 n14 c14 m14 d14 w93 HR2hr12w25.out HR5hr14w25.out HFR11.out.1.1.1 HFR13.out.1.1.1 HFR11.out.1.2.1 HFR11.out.1.2.2 HFR13.out.1.2.1 HFR13.out.1.2.2).mono ?_
  rw [HCU.out]
  rintro e w102 ⟨rfl, hb⟩
  have HB102 := hJ hb
  clear hb
  go_wp2_with fail
  refine (l4lives_any w102).mono ?_
  rintro e w103 ⟨rfl, hb⟩
  have HB103 := hJ hb
  clear hb
  have HC0_27 := hJ (bt (bt (bt (bt (bt (bt (bt (bt (bt (bt HBX29_0.out HB30.out) HB31.out) HB42.out) HB51.out) HB60.out) HB61.out) HB88.out) HB93.out) HB102.out) HB103.out)
  go_wp2
  go_ret
  exact ⟨by first | rfl | exact congrArg (fun b => Ending.returned (.bool b)) HRB.out, HC0_27.out⟩
theorem fracWritten_law (a0 : Option Addr) (len0 cap0 : Nat) (z0 : List Int) (w : World) (w0 : RowI .i64 w a0 len0 cap0 z0) :
  Calls Tryz.prog 9 #[.slice a0 len0 cap0] w fun e w' => e = .returned (.bool true) ∧ Below w.heap.size w w' := by
 obtain ⟨ls, h1, h2, h3, h4⟩ := w0.open_
 exact fracWritten_walk a0 len0 cap0 ls w ⟨h4, by rw [h1]; exact h2, h3⟩
end Go.Proofs.YtbhnaffbgggabaaGreat
