/- The walk of the law FracSums. -/
import Derived.Test.YtbhnaffbgggabaaGreatAO
import Derived.Test.YtbhnaffbgggabaaGreatAS
import Derived.Test.YtbhnaffbgggabaaGreatAG
import Derived.Laws.BytesArg
namespace Go.Proofs.YtbhnaffbgggabaaGreat
open Go.RowKit
attribute [local go_sem ↓] Go.wp_at_zero Go.wp_at_succ
set_option linter.unusedVariables false
set_option linter.unusedSimpArgs false
set_option maxRecDepth 100000 in
set_option maxHeartbeats 6400000 in
theorem fracSums_walk (A : Option Addr) (ln c : Nat) (xs : List Int) (w : World) (hg : Got w (.slice A ln c) xs) :
  Calls Tryz.prog 4 #[.slice A ln c] w fun e w' => e = .returned (.bool true) ∧ Below w.heap.size w w' := by
 have HG := hJ hg
 clear hg
 go_enter Tryz.func4, Tryz.ntmps4
 go_wp2_with fail
 refine (r4frac_any A ln c xs 0 w HG.out (by decide) (by decide)).mono ?_
 rintro e w1 ⟨p11, q11, s11, A11, n11, c11, t11, B11, m11, d11, rfl, hr11, hs11, hf11, hb⟩
 have HB1 := hJ hb
 have HR1hr11 := hJ hr11
 have HR1hs11 := hJ hs11
 clear hb hr11 hs11
 have HFR11 := hJ hf11
 clear hf11
 obtain ⟨x2, hx2⟩ := nmz (w1.alloc (.cells #[.bool s11, .slice A11 n11 c11, .bool t11, .slice B11 m11 d11] 41))
 have HB2 := hJ (show Below w1.heap.size w1 x2 by rw [← hx2]; exact ((Below.refl _ _).alloc (Nat.le_refl _) _))
 have HQ2x0 := hJ (show BX 41 x2 w1.heap.size #[.bool s11, .slice A11 n11 c11, .bool t11, .slice B11 m11 d11] by rw [← hx2]; exact (BX.at rfl))
 have HG2x0 := hJ (show w1.heap.size ≤ w1.heap.size by omega)
 have HL2x0 := hJ (show w1.heap.size < x2.heap.size from HQ2x0.out.lt)
 have HC0_2 := hJ (bt HB1.out HB2.out)
 have HGw2 := hJ (Got.new HG.out HC0_2.out)
 go_wp2_with fail
 clear hx2
 refine (r4frac_any A ln c xs 4 x2 HGw2.out (by decide) (by decide)).mono ?_
 rintro e w3 ⟨p12, q12, s12, A12, n12, c12, t12, B12, m12, d12, rfl, hr12, hs12, hf12, hb⟩
 have HB3 := hJ hb
 have HR3hr12 := hJ hr12
 have HR3hs12 := hJ hs12
 clear hb hr12 hs12
 have HFR12 := hJ hf12
 clear hf12
 obtain ⟨x4, hx4⟩ := nmz (w3.alloc (.cells #[.bool s12, .slice A12 n12 c12, .bool t12, .slice B12 m12 d12] 41))
 have HB4 := hJ (show Below w3.heap.size w3 x4 by rw [← hx4]; exact ((Below.refl _ _).alloc (Nat.le_refl _) _))
 have HQ4x0 := hJ (show BX 41 x4 w3.heap.size #[.bool s12, .slice A12 n12 c12, .bool t12, .slice B12 m12 d12] by rw [← hx4]; exact (BX.at rfl))
 have HG4x0 := hJ (show w3.heap.size ≤ w3.heap.size by omega)
 have HL4x0 := hJ (show w3.heap.size < x4.heap.size from HQ4x0.out.lt)
 have HC2_4 := hJ (bt HB3.out HB4.out)
 have HQ2x0w4 := hJ (BX.new HQ2x0.out HC2_4.out)
 have HS5 : Hid (∀ w', Below x4.heap.size x4 w' → (fun w' : World => w'.cell? ⟨w1.heap.size, 0, none⟩ = some (.bool s11) ∧ w'.cell? ⟨w1.heap.size, 1, none⟩ = some (.slice A11 n11 c11) ∧ w'.cell? ⟨w1.heap.size, 2, none⟩ = some (.bool t11) ∧ w'.cell? ⟨w1.heap.size, 3, none⟩ = some (.slice B11 m11 d11) ∧ w'.cell? ⟨w3.heap.size, 0, none⟩ = some (.bool s12) ∧ w'.cell? ⟨w3.heap.size, 1, none⟩ = some (.slice A12 n12 c12) ∧ w'.cell? ⟨w3.heap.size, 2, none⟩ = some (.bool t12) ∧ w'.cell? ⟨w3.heap.size, 3, none⟩ = some (.slice B12 m12 d12) ∧ Below x4.heap.size x4 w') w') := hJ (fun w' hb => ⟨(BX.new HQ2x0w4.out hb).cell 0 rfl, (BX.new HQ2x0w4.out hb).cell 1 rfl, (BX.new HQ2x0w4.out hb).cell 2 rfl, (BX.new HQ2x0w4.out hb).cell 3 rfl, (BX.new HQ4x0.out hb).cell 0 rfl, (BX.new HQ4x0.out hb).cell 1 rfl, (BX.new HQ4x0.out hb).cell 2 rfl, (BX.new HQ4x0.out hb).cell 3 rfl, hb⟩)
 have HC1_4 := hJ (bt (bt HB2.out HB3.out) HB4.out)
 have HR1hr11w4 := hJ (RNo.new HR1hr11.out HC1_4.out)
 have HR1hs11w4 := hJ (RNo.new HR1hs11.out HC1_4.out)
 go_wp2_with fail
 clear hx4
 obtain ⟨v5, hv5⟩ := nmz (World.drew x4)
 have HX5 := hJ (show Below x4.heap.size x4 v5 by rw [← hv5]; exact (Below.refl _ _).drew)
 refine wp_region_held_drew (S := (fun w' : World => w'.cell? ⟨w1.heap.size, 0, none⟩ = some (.bool s11) ∧ w'.cell? ⟨w1.heap.size, 1, none⟩ = some (.slice A11 n11 c11) ∧ w'.cell? ⟨w1.heap.size, 2, none⟩ = some (.bool t11) ∧ w'.cell? ⟨w1.heap.size, 3, none⟩ = some (.slice B11 m11 d11) ∧ w'.cell? ⟨w3.heap.size, 0, none⟩ = some (.bool s12) ∧ w'.cell? ⟨w3.heap.size, 1, none⟩ = some (.slice A12 n12 c12) ∧ w'.cell? ⟨w3.heap.size, 2, none⟩ = some (.bool t12) ∧ w'.cell? ⟨w3.heap.size, 3, none⟩ = some (.slice B12 m12 d12) ∧ Below x4.heap.size x4 w')) (by kernel_rfl) ?_ (fun hHeld => ?_)
 ·rw [hv5]
  exact HS5.out _ HX5.out
 rw [hv5] at hHeld ⊢
 clear hv5
 refine tq 0 ?_
 try simp only [PT]
 refine tq 1 ?_
 try simp only [PT]
 refine tq 2 ?_
 try simp only [PT]
 refine wpAnyH_ready (rs := [3]) (by kernel_rfl) (by simp) ?_
 refine .cons rfl (fun K hK => ?_) .nil
 go_simp
 go_at_call 31
 refine (r4neg_any p11 q11 s11 A11 n11 c11 t11 B11 m11 d11 v5 (RNo.new HR1hr11w4.out HX5.out) (RNo.new HR1hs11w4.out HX5.out) (Nat.le_trans (rlim (RNo.new HR1hr11w4.out HX5.out) HFR11.out.1.2.1) (by decide))).mono ?_
 rintro e v6 ⟨s13, A13, n13, c13, t13, B13, m13, d13, rfl, hr13, hs13, hb⟩
 have HB6 := hJ hb
 have HR6hr13 := hJ hr13
 have HR6hs13 := hJ hs13
 clear hb hr13 hs13
 go_wp2_with fail
 have HX6 := hJ (bt HX5.out HB6.out)
 clear hHeld
 refine hK.out _ _ (HS5.out _ HX6.out) (fun hHeld => ?_)
 clear hK K
 try simp only [PT]
 refine wpAnyH_ready (rs := [4]) (by kernel_rfl) (by simp) ?_
 refine .cons rfl (fun K hK => ?_) .nil
 go_simp
 go_at_call 28
 refine (r4of_any 0 v6 (by decide)).mono ?_
 rintro e v7 ⟨s14, A14, n14, c14, t14, B14, m14, d14, rfl, hr14, hs14, hb⟩
 have HB7 := hJ hb
 have HR7hr14 := hJ hr14
 have HR7hs14 := hJ hs14
 clear hb hr14 hs14
 go_wp2_with fail
 have HX7 := hJ (bt HX6.out HB7.out)
 have HZ7_0 := hJ (RNo.new HR6hr13.out HB7.out)
 have HZ7_1 := hJ (RNo.new HR6hs13.out HB7.out)
 clear hHeld
 refine hK.out _ _ (HS5.out _ HX7.out) (fun hHeld => ?_)
 clear hK K
 try simp only [PT]
 refine wpAnyH_ready (rs := [5]) (by kernel_rfl) (by simp) ?_
 refine .cons rfl (fun K hK => ?_) .nil
 go_simp
 have HB8 := hJ ((Below.refl v7.heap.size v7).alloc (Nat.le_refl _) (.cells #[.bool s11, .slice A11 n11 c11, .bool t11, .slice B11 m11 d11, .bool s12, .slice A12 n12 c12, .bool t12, .slice B12 m12 d12, .bool s13, .slice A13 n13 c13, .bool t13, .slice B13 m13 d13, .bool s14, .slice A14 n14 c14, .bool t14, .slice B14 m14 d14] 41))
 have HP8 := hJ (BX.lit v7 41 #[.bool s11, .slice A11 n11 c11, .bool t11, .slice B11 m11 d11, .bool s12, .slice A12 n12 c12, .bool t12, .slice B12 m12 d12, .bool s13, .slice A13 n13 c13, .bool t13, .slice B13 m13 d13, .bool s14, .slice A14 n14 c14, .bool t14, .slice B14 m14 d14])
 obtain ⟨v8, hV⟩ := nmz (World.alloc v7 (.cells #[.bool s11, .slice A11 n11 c11, .bool t11, .slice B11 m11 d11, .bool s12, .slice A12 n12 c12, .bool t12, .slice B12 m12 d12, .bool s13, .slice A13 n13 c13, .bool t13, .slice B13 m13 d13, .bool s14, .slice A14 n14 c14, .bool t14, .slice B14 m14 d14] 41))
 obtain ⟨g3_5, hg⟩ := nmz (v7.heap.size)
 rw [hV] at HB8 HP8 ⊢
 rw [hg] at HP8 ⊢
 have HG8 := hJ (show x4.heap.size ≤ g3_5 by rw [← hg]; exact HX7.out.size)
 clear hV hg
 have HX8 := hJ (bt HX7.out HB8.out)
 have HZ8_0 := hJ (RNo.new HZ7_0.out HB8.out)
 have HZ8_1 := hJ (RNo.new HZ7_1.out HB8.out)
 have HZ8_2 := hJ (RNo.new HR7hr14.out HB8.out)
 have HZ8_3 := hJ (RNo.new HR7hs14.out HB8.out)
 clear hHeld
 refine hK.out _ _ (HS5.out _ HX8.out) (fun hHeld => ?_)
 clear hK K
 try simp only [PT]
 refine tq 6 ?_
 try simp only [PT]
 refine wpAnyH_done (by kernel_rfl) ?_ _
 clear hHeld
 have HL9 := hJ (show g3_5 < v8.heap.size from HP8.out.lt)
 go_wp2_with fail
 go_loopw [6] (fun tv wr => ∃ i : Nat, i ≤ 4 ∧ tv = .int .i64 (i : Int) ∧ Below v8.heap.size v8 wr) (fun tv _ => 4 - (intOf tv).toNat)
 case atStart => exact ⟨0, by omega, rfl, Below.refl _ _⟩
 case round =>
  obtain ⟨i10, hi, rfl, hbel⟩ := hrel
  obtain ⟨wl10, rfl⟩ : ∃ W : World, W = wr := ⟨_, rfl⟩
  have HB10 := hJ hbel
  clear hbel
  rcases (show i10 < 4 ∨ i10 = 4 by omega) with hlt | rfl
  ·have h0i : (0 : Int) ≤ (i10 : Int) := by omega
   have hli : (i10 : Int) < 4 := by omega
   have HC4_6 := hJ (bt HX8.out HB10.out)
   have HR1hr11w6 := hJ (RNo.new HR1hr11w4.out HC4_6.out)
   have HR1hs11w6 := hJ (RNo.new HR1hs11w4.out HC4_6.out)
   have HC3_6 := hJ (bt (bt HB4.out HX8.out) HB10.out)
   have HR3hr12w6 := hJ (RNo.new HR3hr12.out HC3_6.out)
   have HR3hs12w6 := hJ (RNo.new HR3hs12.out HC3_6.out)
   have HZ8_0w6 := hJ (RNo.new HZ8_0.out HB10.out)
   have HZ8_1w6 := hJ (RNo.new HZ8_1.out HB10.out)
   have HZ8_2w6 := hJ (RNo.new HZ8_2.out HB10.out)
   have HZ8_3w6 := hJ (RNo.new HZ8_3.out HB10.out)
   obtain ⟨s15, A15, n15, c15, t15, B15, m15, d15, p15, q15, h0, h1, h2, h3, h4, h5, h6⟩ : ∃ (s15 : Bool) (A15 : Option Addr) (n15 c15 : Nat) (t15 : Bool) (B15 : Option Addr) (m15 d15 : Nat) (p15 q15 : Int), (#[.bool s11, .slice A11 n11 c11, .bool t11, .slice B11 m11 d11, .bool s12, .slice A12 n12 c12, .bool t12, .slice B12 m12 d12, .bool s13, .slice A13 n13 c13, .bool t13, .slice B13 m13 d13, .bool s14, .slice A14 n14 c14, .bool t14, .slice B14 m14 d14] : Array Value)[i10 * 4]? = some (.bool s15) ∧ (#[.bool s11, .slice A11 n11 c11, .bool t11, .slice B11 m11 d11, .bool s12, .slice A12 n12 c12, .bool t12, .slice B12 m12 d12, .bool s13, .slice A13 n13 c13, .bool t13, .slice B13 m13 d13, .bool s14, .slice A14 n14 c14, .bool t14, .slice B14 m14 d14] : Array Value)[i10 * 4 + 1]? = some (.slice A15 n15 c15) ∧ (#[.bool s11, .slice A11 n11 c11, .bool t11, .slice B11 m11 d11, .bool s12, .slice A12 n12 c12, .bool t12, .slice B12 m12 d12, .bool s13, .slice A13 n13 c13, .bool t13, .slice B13 m13 d13, .bool s14, .slice A14 n14 c14, .bool t14, .slice B14 m14 d14] : Array Value)[i10 * 4 + 2]? = some (.bool t15) ∧ (#[.bool s11, .slice A11 n11 c11, .bool t11, .slice B11 m11 d11, .bool s12, .slice A12 n12 c12, .bool t12, .slice B12 m12 d12, .bool s13, .slice A13 n13 c13, .bool t13, .slice B13 m13 d13, .bool s14, .slice A14 n14 c14, .bool t14, .slice B14 m14 d14] : Array Value)[i10 * 4 + 3]? = some (.slice B15 m15 d15) ∧ RN wl10 s15 A15 n15 c15 p15 ∧ RN wl10 t15 B15 m15 d15 q15 ∧ Fr p15 q15 := by
    have hcs : i10 = 0 ∨ i10 = 1 ∨ i10 = 2 ∨ i10 = 3 := by omega
    rcases hcs with rfl | rfl | rfl | rfl
    ·exact ⟨_, _, _, _, _, _, _, _, _, _, rfl, rfl, rfl, rfl, HR1hr11w6.out, HR1hs11w6.out, HFR11.out.1⟩
    ·exact ⟨_, _, _, _, _, _, _, _, _, _, rfl, rfl, rfl, rfl, HR3hr12w6.out, HR3hs12w6.out, HFR12.out.1⟩
    ·exact ⟨_, _, _, _, _, _, _, _, _, _, rfl, rfl, rfl, rfl, HZ8_0w6.out, HZ8_1w6.out, (fr_neg HFR11.out.1)⟩
    ·exact ⟨_, _, _, _, _, _, _, _, _, _, rfl, rfl, rfl, rfl, HZ8_2w6.out, HZ8_3w6.out, (fr_int (x := 0) (by decide))⟩
   have HS15_0 := hJ h0
   have HS15_1 := hJ h1
   have HS15_2 := hJ h2
   have HS15_3 := hJ h3
   have HRP15 := hJ h4
   have HRQ15 := hJ h5
   have HFV15 := hJ h6
   clear h0 h1 h2 h3 h4 h5 h6
   go_wp2_with fail
   go_loopw [7] (fun tv wr => ∃ i : Nat, i ≤ 4 ∧ tv = .int .i64 (i : Int) ∧ Below wl10.heap.size wl10 wr) (fun tv _ => 4 - (intOf tv).toNat)
   case atStart => exact ⟨0, by omega, rfl, Below.refl _ _⟩
   case round =>
    obtain ⟨i11, hi, rfl, hbel⟩ := hrel
    obtain ⟨wl11, rfl⟩ : ∃ W : World, W = wr := ⟨_, rfl⟩
    have HB11 := hJ hbel
    clear hbel
    rcases (show i11 < 4 ∨ i11 = 4 by omega) with hlt | rfl
    ·have h0i : (0 : Int) ≤ (i11 : Int) := by omega
     have hli : (i11 : Int) < 4 := by omega
     have HR1hr11w7 := hJ (RNo.new HR1hr11w6.out HB11.out)
     have HR1hs11w7 := hJ (RNo.new HR1hs11w6.out HB11.out)
     have HR3hr12w7 := hJ (RNo.new HR3hr12w6.out HB11.out)
     have HR3hs12w7 := hJ (RNo.new HR3hs12w6.out HB11.out)
     have HZ8_0w7 := hJ (RNo.new HZ8_0w6.out HB11.out)
     have HZ8_1w7 := hJ (RNo.new HZ8_1w6.out HB11.out)
     have HZ8_2w7 := hJ (RNo.new HZ8_2w6.out HB11.out)
     have HZ8_3w7 := hJ (RNo.new HZ8_3w6.out HB11.out)
     obtain ⟨s16, A16, n16, c16, t16, B16, m16, d16, p16, q16, h0, h1, h2, h3, h4, h5, h6⟩ : ∃ (s16 : Bool) (A16 : Option Addr) (n16 c16 : Nat) (t16 : Bool) (B16 : Option Addr) (m16 d16 : Nat) (p16 q16 : Int), (#[.bool s11, .slice A11 n11 c11, .bool t11, .slice B11 m11 d11, .bool s12, .slice A12 n12 c12, .bool t12, .slice B12 m12 d12, .bool s13, .slice A13 n13 c13, .bool t13, .slice B13 m13 d13, .bool s14, .slice A14 n14 c14, .bool t14, .slice B14 m14 d14] : Array Value)[i11 * 4]? = some (.bool s16) ∧ (#[.bool s11, .slice A11 n11 c11, .bool t11, .slice B11 m11 d11, .bool s12, .slice A12 n12 c12, .bool t12, .slice B12 m12 d12, .bool s13, .slice A13 n13 c13, .bool t13, .slice B13 m13 d13, .bool s14, .slice A14 n14 c14, .bool t14, .slice B14 m14 d14] : Array Value)[i11 * 4 + 1]? = some (.slice A16 n16 c16) ∧ (#[.bool s11, .slice A11 n11 c11, .bool t11, .slice B11 m11 d11, .bool s12, .slice A12 n12 c12, .bool t12, .slice B12 m12 d12, .bool s13, .slice A13 n13 c13, .bool t13, .slice B13 m13 d13, .bool s14, .slice A14 n14 c14, .bool t14, .slice B14 m14 d14] : Array Value)[i11 * 4 + 2]? = some (.bool t16) ∧ (#[.bool s11, .slice A11 n11 c11, .bool t11, .slice B11 m11 d11, .bool s12, .slice A12 n12 c12, .bool t12, .slice B12 m12 d12, .bool s13, .slice A13 n13 c13, .bool t13, .slice B13 m13 d13, .bool s14, .slice A14 n14 c14, .bool t14, .slice B14 m14 d14] : Array Value)[i11 * 4 + 3]? = some (.slice B16 m16 d16) ∧ RN wl11 s16 A16 n16 c16 p16 ∧ RN wl11 t16 B16 m16 d16 q16 ∧ Fr p16 q16 := by
      have hcs : i11 = 0 ∨ i11 = 1 ∨ i11 = 2 ∨ i11 = 3 := by omega
      rcases hcs with rfl | rfl | rfl | rfl
      ·exact ⟨_, _, _, _, _, _, _, _, _, _, rfl, rfl, rfl, rfl, HR1hr11w7.out, HR1hs11w7.out, HFR11.out.1⟩
      ·exact ⟨_, _, _, _, _, _, _, _, _, _, rfl, rfl, rfl, rfl, HR3hr12w7.out, HR3hs12w7.out, HFR12.out.1⟩
      ·exact ⟨_, _, _, _, _, _, _, _, _, _, rfl, rfl, rfl, rfl, HZ8_0w7.out, HZ8_1w7.out, (fr_neg HFR11.out.1)⟩
      ·exact ⟨_, _, _, _, _, _, _, _, _, _, rfl, rfl, rfl, rfl, HZ8_2w7.out, HZ8_3w7.out, (fr_int (x := 0) (by decide))⟩
     have HS16_0 := hJ h0
     have HS16_1 := hJ h1
     have HS16_2 := hJ h2
     have HS16_3 := hJ h3
     have HRP16 := hJ h4
     have HRQ16 := hJ h5
     have HFV16 := hJ h6
     clear h0 h1 h2 h3 h4 h5 h6
     have HC5_7 := hJ (bt HB10.out HB11.out)
     have HP8w7 := hJ (BX.new HP8.out HC5_7.out)
     have cl12 := HP8w7.out.cell (i10 * 4) HS15_0.out
     have cl13 := HP8w7.out.cell (i10 * 4 + 1) HS15_1.out
     have cl14 := HP8w7.out.cell (i10 * 4 + 2) HS15_2.out
     have cl15 := HP8w7.out.cell (i10 * 4 + 3) HS15_3.out
     have HRP15w7 := hJ (RNo.new HRP15.out HB11.out)
     have HRQ15w7 := hJ (RNo.new HRQ15.out HB11.out)
     go_wp2_with fail
     clear cl12 cl13 cl14 cl15
     refine (l4of_any p15 q15 s15 A15 n15 c15 t15 B15 m15 d15 wl11 HRP15w7.out HRQ15w7.out HFV15.out).mono ?_
     rintro e w16 ⟨s17, A17, n17, c17, t17, B17, m17, d17, rfl, hr17, hb⟩
     have HB16 := hJ hb
     have HR16hr17 := hJ hr17
     clear hb hr17
     obtain ⟨x17, hx17⟩ := nmz (w16.alloc (.cells #[.bool s17, .slice A17 n17 c17, .bool t17, .slice B17 m17 d17] 35))
     have HB17 := hJ (show Below w16.heap.size w16 x17 by rw [← hx17]; exact ((Below.refl _ _).alloc (Nat.le_refl _) _))
     have HQ17x0 := hJ (show BX 35 x17 w16.heap.size #[.bool s17, .slice A17 n17 c17, .bool t17, .slice B17 m17 d17] by rw [← hx17]; exact (BX.at rfl))
     have HG17x0 := hJ (show w16.heap.size ≤ w16.heap.size by omega)
     have HL17x0 := hJ (show w16.heap.size < x17.heap.size from HQ17x0.out.lt)
     have HC7_9 := hJ (bt HB16.out HB17.out)
     have HP8w9 := hJ (BX.new HP8w7.out HC7_9.out)
     have cl18 := HP8w9.out.cell (i11 * 4) HS16_0.out
     have cl19 := HP8w9.out.cell (i11 * 4 + 1) HS16_1.out
     have cl20 := HP8w9.out.cell (i11 * 4 + 2) HS16_2.out
     have cl21 := HP8w9.out.cell (i11 * 4 + 3) HS16_3.out
     have HRP16w9 := hJ (RNo.new HRP16.out HC7_9.out)
     have HRQ16w9 := hJ (RNo.new HRQ16.out HC7_9.out)
     go_wp2_with fail
     clear hx17 cl18 cl19 cl20 cl21
     refine (l4of_any p16 q16 s16 A16 n16 c16 t16 B16 m16 d16 x17 HRP16w9.out HRQ16w9.out HFV16.out).mono ?_
     rintro e w22 ⟨s18, A18, n18, c18, t18, B18, m18, d18, rfl, hr18, hb⟩
     have HB22 := hJ hb
     have HR22hr18 := hJ hr18
     clear hb hr18
     obtain ⟨x23, hx23⟩ := nmz (w22.alloc (.cells #[.bool s18, .slice A18 n18 c18, .bool t18, .slice B18 m18 d18] 35))
     have HB23 := hJ (show Below w22.heap.size w22 x23 by rw [← hx23]; exact ((Below.refl _ _).alloc (Nat.le_refl _) _))
     have HQ23x0 := hJ (show BX 35 x23 w22.heap.size #[.bool s18, .slice A18 n18 c18, .bool t18, .slice B18 m18 d18] by rw [← hx23]; exact (BX.at rfl))
     have HG23x0 := hJ (show w22.heap.size ≤ w22.heap.size by omega)
     have HL23x0 := hJ (show w22.heap.size < x23.heap.size from HQ23x0.out.lt)
     have HC9_11 := hJ (bt HB22.out HB23.out)
     have HQ17x0w11 := hJ (BX.new HQ17x0.out HC9_11.out)
     obtain ⟨cl24, cl25, cl26, cl27⟩ := HQ17x0w11.out.c4 0 1 2 3 rfl rfl rfl rfl
     obtain ⟨cl28, cl29, cl30, cl31⟩ := HQ23x0.out.c4 0 1 2 3 rfl rfl rfl rfl
     obtain ⟨P19, hP19⟩ := nmz (adP p15 q15 p16 q16)
     have HEP19 := hJ hP19
     clear hP19
     obtain ⟨Q20, hQ20⟩ := nmz (adQ p15 q15 p16 q16)
     have HEQ20 := hJ hQ20
     clear hQ20
     obtain ⟨C21, hC21⟩ := nmz (adC p15 q15 p16 q16)
     have HEC21 := hJ hC21
     clear hC21
     have HF22 := hJ (show Fr P19 Q20 by rw [← HEP19.out, ← HEQ20.out]; exact fr_ad HFV15.out HFV16.out)
     have HC8_11 := hJ (bt (bt HB17.out HB22.out) HB23.out)
     have HR16hr17w11 := hJ (PF.new HR16hr17.out HC8_11.out)
     have HR22hr18w11 := hJ (PF.new HR22hr18.out HB23.out)
     go_wp2_with fail
     clear hx23 cl24 cl25 cl26 cl27 cl28 cl29 cl30 cl31
     refine (fadd_any p15 q15 p16 q16 s17 t17 s18 t18 A17 B17 A18 B18 n17 c17 m17 d17 n18 c18 m18 d18 x23 HR16hr17w11.out HR22hr18w11.out HFV15.out.1.1 HFV16.out.1.1 HFV15.out.2.1 HFV15.out.2.2 HFV16.out.2.1 HFV16.out.2.2).mono ?_
     rw [HEP19.out, HEQ20.out, HEC21.out]
     rintro e w32 ⟨s23, A23, n23, c23, t23, B23, m23, d23, rfl, hr23, hb⟩
     have HB32 := hJ hb
     have HR32hr23 := hJ hr23
     clear hb hr23
     obtain ⟨x33, hx33⟩ := nmz (w32.alloc (.cells #[.bool s23, .slice A23 n23 c23, .bool t23, .slice B23 m23 d23] 35))
     have HB33 := hJ (show Below w32.heap.size w32 x33 by rw [← hx33]; exact ((Below.refl _ _).alloc (Nat.le_refl _) _))
     have HQ33x0 := hJ (show BX 35 x33 w32.heap.size #[.bool s23, .slice A23 n23 c23, .bool t23, .slice B23 m23 d23] by rw [← hx33]; exact (BX.at rfl))
     have HG33x0 := hJ (show w32.heap.size ≤ w32.heap.size by omega)
     have HL33x0 := hJ (show w32.heap.size < x33.heap.size from HQ33x0.out.lt)
     have HC9_13 := hJ (bt (bt HC9_11.out HB32.out) HB33.out)
     have HP8w13 := hJ (BX.new HP8w9.out HC9_13.out)
     have HS34 : Hid (∀ w', Below x33.heap.size x33 w' → (fun w' : World => w'.cell? ⟨g3_5, i10 * 4, none⟩ = some (.bool s15) ∧ w'.cell? ⟨g3_5, i10 * 4 + 1, none⟩ = some (.slice A15 n15 c15) ∧ w'.cell? ⟨g3_5, i10 * 4 + 2, none⟩ = some (.bool t15) ∧ w'.cell? ⟨g3_5, i10 * 4 + 3, none⟩ = some (.slice B15 m15 d15) ∧ w'.cell? ⟨g3_5, i11 * 4, none⟩ = some (.bool s16) ∧ w'.cell? ⟨g3_5, i11 * 4 + 1, none⟩ = some (.slice A16 n16 c16) ∧ w'.cell? ⟨g3_5, i11 * 4 + 2, none⟩ = some (.bool t16) ∧ w'.cell? ⟨g3_5, i11 * 4 + 3, none⟩ = some (.slice B16 m16 d16) ∧ Below x33.heap.size x33 w') w') := hJ (fun w' hb => ⟨(BX.new HP8w13.out hb).cell (i10 * 4) HS15_0.out, (BX.new HP8w13.out hb).cell (i10 * 4 + 1) HS15_1.out, (BX.new HP8w13.out hb).cell (i10 * 4 + 2) HS15_2.out, (BX.new HP8w13.out hb).cell (i10 * 4 + 3) HS15_3.out, (BX.new HP8w13.out hb).cell (i11 * 4) HS16_0.out, (BX.new HP8w13.out hb).cell (i11 * 4 + 1) HS16_1.out, (BX.new HP8w13.out hb).cell (i11 * 4 + 2) HS16_2.out, (BX.new HP8w13.out hb).cell (i11 * 4 + 3) HS16_3.out, hb⟩)
     have HC7_13 := hJ (bt (bt (bt (bt HC7_9.out HB22.out) HB23.out) HB32.out) HB33.out)
     have HRP15w13 := hJ (RNo.new HRP15w7.out HC7_13.out)
     have HRQ15w13 := hJ (RNo.new HRQ15w7.out HC7_13.out)
     have HRP16w13 := hJ (RNo.new HRP16w9.out HC9_13.out)
     have HRQ16w13 := hJ (RNo.new HRQ16w9.out HC9_13.out)
     go_wp2_with fail
     clear hx33
     obtain ⟨v34, hv34⟩ := nmz (World.drew x33)
     have HX34 := hJ (show Below x33.heap.size x33 v34 by rw [← hv34]; exact (Below.refl _ _).drew)
     refine wp_region_held_drew (S := (fun w' : World => w'.cell? ⟨g3_5, i10 * 4, none⟩ = some (.bool s15) ∧ w'.cell? ⟨g3_5, i10 * 4 + 1, none⟩ = some (.slice A15 n15 c15) ∧ w'.cell? ⟨g3_5, i10 * 4 + 2, none⟩ = some (.bool t15) ∧ w'.cell? ⟨g3_5, i10 * 4 + 3, none⟩ = some (.slice B15 m15 d15) ∧ w'.cell? ⟨g3_5, i11 * 4, none⟩ = some (.bool s16) ∧ w'.cell? ⟨g3_5, i11 * 4 + 1, none⟩ = some (.slice A16 n16 c16) ∧ w'.cell? ⟨g3_5, i11 * 4 + 2, none⟩ = some (.bool t16) ∧ w'.cell? ⟨g3_5, i11 * 4 + 3, none⟩ = some (.slice B16 m16 d16) ∧ Below x33.heap.size x33 w')) (by kernel_rfl) ?_ (fun hHeld => ?_)
     ·rw [hv34]
      exact HS34.out _ HX34.out
     rw [hv34] at hHeld ⊢
     clear hv34
     refine tq 0 ?_
     try simp only [PT]
     refine tq 1 ?_
     try simp only [PT]
     refine tq 2 ?_
     try simp only [PT]
     refine tq 3 ?_
     try simp only [PT]
     refine tq 4 ?_
     try simp only [PT]
     refine tq 5 ?_
     try simp only [PT]
     refine tq 6 ?_
     try simp only [PT]
     refine tq 7 ?_
     try simp only [PT]
     refine wpAnyH_name (fun F hF a0 ha0 L0 hL0 => ?_)
     have J13_8_12 : ∀ (s24 : Bool) (A24 : Option Addr) (n24 : Nat) (c24 : Nat) (t24 : Bool) (B24 : Option Addr) (m24 : Nat) (d24 : Nat) (g13_12 : Nat) (v : World), Hid (Below x33.heap.size x33 v) → Hid (RN v s24 A24 n24 c24 P19) → Hid (RN v t24 B24 m24 d24 Q20) → Hid (BX 41 v g13_12 #[.bool false, .slice none 0 0, .bool false, .slice none 0 0]) → Hid (x33.heap.size ≤ g13_12) → F 2 (Array.setIfInBounds (Array.setIfInBounds (Array.setIfInBounds (Array.setIfInBounds (Array.setIfInBounds L0 8 true) 12 true) 9 true) 10 true) 11 true) (Act.put (Act.put (Act.put (Act.put (Act.put a0 (some 69) (.tuple #[.agg #[.bool s24, .slice A24 n24 c24, .bool t24, .slice B24 m24 d24], .int .i64 C21])) (some 12) (.pointer (some ⟨g13_12, 0, none⟩))) (some 60) (.tuple #[.agg #[.bool s24, .slice A24 n24 c24, .bool t24, .slice B24 m24 d24], .int .i64 C21])) (some 70) (.agg #[.bool s24, .slice A24 n24 c24, .bool t24, .slice B24 m24 d24])) (some 71) (.int .i64 C21)) v := by
      intro s24 A24 n24 c24 t24 B24 m24 d24 g13_12 v HXj HZ8hr24j HZ8hs24j HPg13_12j HGg13_12j
      subst hF ha0 hL0
      simp only [PT] at  ⊢
      have hHeld := HS34.out _ HXj.out
      refine wpAnyH_ready (rs := [13]) (by kernel_rfl) (by simp) ?_
      refine .cons rfl (fun K hK => ?_) .nil
      have z35_0 := HPg13_12j.out.cell 0 rfl
      have y35_0 := HPg13_12j.out.frozen 0
      have z35_1 := HPg13_12j.out.cell 1 rfl
      have y35_1 := HPg13_12j.out.frozen 1
      have z35_2 := HPg13_12j.out.cell 2 rfl
      have y35_2 := HPg13_12j.out.frozen 2
      have z35_3 := HPg13_12j.out.cell 3 rfl
      have y35_3 := HPg13_12j.out.frozen 3
      have z35 := HPg13_12j.out.lt
      go_simp
      obtain ⟨v35, hV⟩ := nmz (World.setCell (World.setCell (World.setCell (World.setCell v ⟨g13_12, 0, none⟩ (.bool s24)) ⟨g13_12, 1, none⟩ (.slice A24 n24 c24)) ⟨g13_12, 2, none⟩ (.bool t24)) ⟨g13_12, 3, none⟩ (.slice B24 m24 d24))
      rw [hV]
      have HE35 := hJ (show sto v g13_12 0 [.bool s24, .slice A24 n24 c24, .bool t24, .slice B24 m24 d24] = v35 from hV)
      clear hV z35 z35_0 y35_0 z35_1 y35_1 z35_2 y35_2 z35_3 y35_3
      have HX35 := hJ (show Below x33.heap.size x33 v35 by rw [← HE35.out]; exact below_sto HXj.out HGg13_12j.out _ _)
      have HZ35_0 := hJ (show RN v35 s24 A24 n24 c24 P19 by rw [← HE35.out]; exact RNo.sto HZ8hr24j.out HPg13_12j.out rfl _ _)
      have HZ35_1 := hJ (show RN v35 t24 B24 m24 d24 Q20 by rw [← HE35.out]; exact RNo.sto HZ8hs24j.out HPg13_12j.out rfl _ _)
      have HP35g13_12 := hJ (show BX 41 v35 g13_12 #[.bool s24, .slice A24 n24 c24, .bool t24, .slice B24 m24 d24] by rw [← HE35.out]; exact BX.put HPg13_12j.out _ _)
      clear hHeld
      refine hK.out _ _ (HS34.out _ HX35.out) (fun hHeld => ?_)
      clear hK K
      try simp only [PT]
      refine tq 14 ?_
      try simp only [PT]
      refine wpAnyH_done (by kernel_rfl) ?_ _
      clear hHeld
      have HL36 := hJ (show g13_12 < v35.heap.size from HP35g13_12.out.lt)
      have HC11_14 := hJ (bt (bt HB32.out HB33.out) HX35.out)
      have HQ17x0w14 := hJ (BX.new HQ17x0w11.out HC11_14.out)
      obtain ⟨cl37, cl38, cl39, cl40⟩ := HQ17x0w14.out.c4 0 1 2 3 rfl rfl rfl rfl
      have HQ23x0w14 := hJ (BX.new HQ23x0.out HC11_14.out)
      obtain ⟨cl41, cl42, cl43, cl44⟩ := HQ23x0w14.out.c4 0 1 2 3 rfl rfl rfl rfl
      obtain ⟨P25, hP25⟩ := nmz (adP p15 q15 (-p16) q16)
      have HEP25 := hJ hP25
      clear hP25
      obtain ⟨Q26, hQ26⟩ := nmz (adQ p15 q15 (-p16) q16)
      have HEQ26 := hJ hQ26
      clear hQ26
      obtain ⟨C27, hC27⟩ := nmz (adC p15 q15 (-p16) q16)
      have HEC27 := hJ hC27
      clear hC27
      have HF28 := hJ (show Fr P25 Q26 by rw [← HEP25.out, ← HEQ26.out]; exact fr_ad HFV15.out (fr_neg HFV16.out))
      have HR16hr17w14 := hJ (PF.new HR16hr17w11.out HC11_14.out)
      have HR22hr18w14 := hJ (PF.new HR22hr18w11.out HC11_14.out)
      go_wp2_with fail
      clear cl37 cl38 cl39 cl40 cl41 cl42 cl43 cl44
      refine (fsub_any p15 q15 p16 q16 s17 t17 s18 t18 A17 B17 A18 B18 n17 c17 m17 d17 n18 c18 m18 d18 v35 HR16hr17w14.out HR22hr18w14.out HFV15.out.1.1 HFV16.out.1.1 HFV15.out.2.1 HFV15.out.2.2 HFV16.out.2.1 HFV16.out.2.2).mono ?_
      rw [HEP25.out, HEQ26.out, HEC27.out]
      rintro e w45 ⟨s29, A29, n29, c29, t29, B29, m29, d29, rfl, hr29, hb⟩
      have HB45 := hJ hb
      have HR45hr29 := hJ hr29
      clear hb hr29
      obtain ⟨x46, hx46⟩ := nmz (w45.alloc (.cells #[.bool s29, .slice A29 n29 c29, .bool t29, .slice B29 m29 d29] 35))
      have HB46 := hJ (show Below w45.heap.size w45 x46 by rw [← hx46]; exact ((Below.refl _ _).alloc (Nat.le_refl _) _))
      have HQ46x0 := hJ (show BX 35 x46 w45.heap.size #[.bool s29, .slice A29 n29 c29, .bool t29, .slice B29 m29 d29] by rw [← hx46]; exact (BX.at rfl))
      have HG46x0 := hJ (show w45.heap.size ≤ w45.heap.size by omega)
      have HL46x0 := hJ (show w45.heap.size < x46.heap.size from HQ46x0.out.lt)
      have HC13_16 := hJ (bt (bt HX35.out HB45.out) HB46.out)
      have HP8w16 := hJ (BX.new HP8w13.out HC13_16.out)
      have HS47 : Hid (∀ w', Below x46.heap.size x46 w' → (fun w' : World => w'.cell? ⟨g3_5, i10 * 4, none⟩ = some (.bool s15) ∧ w'.cell? ⟨g3_5, i10 * 4 + 1, none⟩ = some (.slice A15 n15 c15) ∧ w'.cell? ⟨g3_5, i10 * 4 + 2, none⟩ = some (.bool t15) ∧ w'.cell? ⟨g3_5, i10 * 4 + 3, none⟩ = some (.slice B15 m15 d15) ∧ w'.cell? ⟨g3_5, i11 * 4, none⟩ = some (.bool s16) ∧ w'.cell? ⟨g3_5, i11 * 4 + 1, none⟩ = some (.slice A16 n16 c16) ∧ w'.cell? ⟨g3_5, i11 * 4 + 2, none⟩ = some (.bool t16) ∧ w'.cell? ⟨g3_5, i11 * 4 + 3, none⟩ = some (.slice B16 m16 d16) ∧ Below x46.heap.size x46 w') w') := hJ (fun w' hb => ⟨(BX.new HP8w16.out hb).cell (i10 * 4) HS15_0.out, (BX.new HP8w16.out hb).cell (i10 * 4 + 1) HS15_1.out, (BX.new HP8w16.out hb).cell (i10 * 4 + 2) HS15_2.out, (BX.new HP8w16.out hb).cell (i10 * 4 + 3) HS15_3.out, (BX.new HP8w16.out hb).cell (i11 * 4) HS16_0.out, (BX.new HP8w16.out hb).cell (i11 * 4 + 1) HS16_1.out, (BX.new HP8w16.out hb).cell (i11 * 4 + 2) HS16_2.out, (BX.new HP8w16.out hb).cell (i11 * 4 + 3) HS16_3.out, hb⟩)
      have HRP15w16 := hJ (RNo.new HRP15w13.out HC13_16.out)
      have HRQ15w16 := hJ (RNo.new HRQ15w13.out HC13_16.out)
      have HRP16w16 := hJ (RNo.new HRP16w13.out HC13_16.out)
      have HRQ16w16 := hJ (RNo.new HRQ16w13.out HC13_16.out)
      go_wp2_with fail
      clear hx46
      obtain ⟨v47, hv47⟩ := nmz (World.drew x46)
      have HX47 := hJ (show Below x46.heap.size x46 v47 by rw [← hv47]; exact (Below.refl _ _).drew)
      refine wp_region_held_drew (S := (fun w' : World => w'.cell? ⟨g3_5, i10 * 4, none⟩ = some (.bool s15) ∧ w'.cell? ⟨g3_5, i10 * 4 + 1, none⟩ = some (.slice A15 n15 c15) ∧ w'.cell? ⟨g3_5, i10 * 4 + 2, none⟩ = some (.bool t15) ∧ w'.cell? ⟨g3_5, i10 * 4 + 3, none⟩ = some (.slice B15 m15 d15) ∧ w'.cell? ⟨g3_5, i11 * 4, none⟩ = some (.bool s16) ∧ w'.cell? ⟨g3_5, i11 * 4 + 1, none⟩ = some (.slice A16 n16 c16) ∧ w'.cell? ⟨g3_5, i11 * 4 + 2, none⟩ = some (.bool t16) ∧ w'.cell? ⟨g3_5, i11 * 4 + 3, none⟩ = some (.slice B16 m16 d16) ∧ Below x46.heap.size x46 w')) (by kernel_rfl) ?_ (fun hHeld => ?_)
      ·rw [hv47]
       exact HS47.out _ HX47.out
      rw [hv47] at hHeld ⊢
      clear hv47
      refine tq 0 ?_
      try simp only [PT]
      refine tq 1 ?_
      try simp only [PT]
      refine tq 2 ?_
      try simp only [PT]
      refine tq 3 ?_
      try simp only [PT]
      refine tq 4 ?_
      try simp only [PT]
      refine tq 5 ?_
      try simp only [PT]
      refine tq 6 ?_
      try simp only [PT]
      refine tq 7 ?_
      try simp only [PT]
      refine wpAnyH_name (fun F hF a0 ha0 L0 hL0 => ?_)
      have J15_8_12 : ∀ (s30 : Bool) (A30 : Option Addr) (n30 : Nat) (c30 : Nat) (t30 : Bool) (B30 : Option Addr) (m30 : Nat) (d30 : Nat) (g15_12 : Nat) (v : World), Hid (Below x46.heap.size x46 v) → Hid (RN v s30 A30 n30 c30 P25) → Hid (RN v t30 B30 m30 d30 Q26) → Hid (BX 41 v g15_12 #[.bool false, .slice none 0 0, .bool false, .slice none 0 0]) → Hid (x46.heap.size ≤ g15_12) → F 2 (Array.setIfInBounds (Array.setIfInBounds (Array.setIfInBounds (Array.setIfInBounds (Array.setIfInBounds L0 8 true) 12 true) 9 true) 10 true) 11 true) (Act.put (Act.put (Act.put (Act.put (Act.put a0 (some 87) (.tuple #[.agg #[.bool s30, .slice A30 n30 c30, .bool t30, .slice B30 m30 d30], .int .i64 C27])) (some 16) (.pointer (some ⟨g15_12, 0, none⟩))) (some 78) (.tuple #[.agg #[.bool s30, .slice A30 n30 c30, .bool t30, .slice B30 m30 d30], .int .i64 C27])) (some 88) (.agg #[.bool s30, .slice A30 n30 c30, .bool t30, .slice B30 m30 d30])) (some 89) (.int .i64 C27)) v := by
       intro s30 A30 n30 c30 t30 B30 m30 d30 g15_12 v HXj HZ8hr30j HZ8hs30j HPg15_12j HGg15_12j
       subst hF ha0 hL0
       simp only [PT] at  ⊢
       have hHeld := HS47.out _ HXj.out
       refine wpAnyH_ready (rs := [13]) (by kernel_rfl) (by simp) ?_
       refine .cons rfl (fun K hK => ?_) .nil
       have z48_0 := HPg15_12j.out.cell 0 rfl
       have y48_0 := HPg15_12j.out.frozen 0
       have z48_1 := HPg15_12j.out.cell 1 rfl
       have y48_1 := HPg15_12j.out.frozen 1
       have z48_2 := HPg15_12j.out.cell 2 rfl
       have y48_2 := HPg15_12j.out.frozen 2
       have z48_3 := HPg15_12j.out.cell 3 rfl
       have y48_3 := HPg15_12j.out.frozen 3
       have z48 := HPg15_12j.out.lt
       go_simp
       obtain ⟨v48, hV⟩ := nmz (World.setCell (World.setCell (World.setCell (World.setCell v ⟨g15_12, 0, none⟩ (.bool s30)) ⟨g15_12, 1, none⟩ (.slice A30 n30 c30)) ⟨g15_12, 2, none⟩ (.bool t30)) ⟨g15_12, 3, none⟩ (.slice B30 m30 d30))
       rw [hV]
       have HE48 := hJ (show sto v g15_12 0 [.bool s30, .slice A30 n30 c30, .bool t30, .slice B30 m30 d30] = v48 from hV)
       clear hV z48 z48_0 y48_0 z48_1 y48_1 z48_2 y48_2 z48_3 y48_3
       have HX48 := hJ (show Below x46.heap.size x46 v48 by rw [← HE48.out]; exact below_sto HXj.out HGg15_12j.out _ _)
       have HZ48_0 := hJ (show RN v48 s30 A30 n30 c30 P25 by rw [← HE48.out]; exact RNo.sto HZ8hr30j.out HPg15_12j.out rfl _ _)
       have HZ48_1 := hJ (show RN v48 t30 B30 m30 d30 Q26 by rw [← HE48.out]; exact RNo.sto HZ8hs30j.out HPg15_12j.out rfl _ _)
       have HP48g15_12 := hJ (show BX 41 v48 g15_12 #[.bool s30, .slice A30 n30 c30, .bool t30, .slice B30 m30 d30] by rw [← HE48.out]; exact BX.put HPg15_12j.out _ _)
       clear hHeld
       refine hK.out _ _ (HS47.out _ HX48.out) (fun hHeld => ?_)
       clear hK K
       try simp only [PT]
       refine tq 14 ?_
       try simp only [PT]
       refine wpAnyH_done (by kernel_rfl) ?_ _
       clear hHeld
       have HL49 := hJ (show g15_12 < v48.heap.size from HP48g15_12.out.lt)
       have HC14_17 := hJ (bt (bt HB45.out HB46.out) HX48.out)
       have HQ17x0w17 := hJ (BX.new HQ17x0w14.out HC14_17.out)
       obtain ⟨cl50, cl51, cl52, cl53⟩ := HQ17x0w17.out.c4 0 1 2 3 rfl rfl rfl rfl
       have HQ23x0w17 := hJ (BX.new HQ23x0w14.out HC14_17.out)
       obtain ⟨cl54, cl55, cl56, cl57⟩ := HQ23x0w17.out.c4 0 1 2 3 rfl rfl rfl rfl
       obtain ⟨P31, hP31⟩ := nmz (muP p15 q15 p16 q16)
       have HEP31 := hJ hP31
       clear hP31
       obtain ⟨Q32, hQ32⟩ := nmz (muQ p15 q15 p16 q16)
       have HEQ32 := hJ hQ32
       clear hQ32
       obtain ⟨C33, hC33⟩ := nmz (muC p15 q15 p16 q16)
       have HEC33 := hJ hC33
       clear hC33
       have HF34 := hJ (show Fr P31 Q32 by rw [← HEP31.out, ← HEQ32.out]; exact fr_mu HFV15.out HFV16.out)
       have HR16hr17w17 := hJ (PF.new HR16hr17w14.out HC14_17.out)
       have HR22hr18w17 := hJ (PF.new HR22hr18w14.out HC14_17.out)
       go_wp2_with fail
       clear cl50 cl51 cl52 cl53 cl54 cl55 cl56 cl57
       refine (fmul_any p15 q15 p16 q16 s17 t17 s18 t18 A17 B17 A18 B18 n17 c17 m17 d17 n18 c18 m18 d18 v48 HR16hr17w17.out HR22hr18w17.out HFV15.out.1.1 HFV16.out.1.1 HFV15.out.2.1 HFV15.out.2.2 HFV16.out.2.1 HFV16.out.2.2).mono ?_
       rw [HEP31.out, HEQ32.out, HEC33.out]
       rintro e w58 ⟨s35, A35, n35, c35, t35, B35, m35, d35, rfl, hr35, hb⟩
       have HB58 := hJ hb
       have HR58hr35 := hJ hr35
       clear hb hr35
       obtain ⟨x59, hx59⟩ := nmz (w58.alloc (.cells #[.bool s35, .slice A35 n35 c35, .bool t35, .slice B35 m35 d35] 35))
       have HB59 := hJ (show Below w58.heap.size w58 x59 by rw [← hx59]; exact ((Below.refl _ _).alloc (Nat.le_refl _) _))
       have HQ59x0 := hJ (show BX 35 x59 w58.heap.size #[.bool s35, .slice A35 n35 c35, .bool t35, .slice B35 m35 d35] by rw [← hx59]; exact (BX.at rfl))
       have HG59x0 := hJ (show w58.heap.size ≤ w58.heap.size by omega)
       have HL59x0 := hJ (show w58.heap.size < x59.heap.size from HQ59x0.out.lt)
       have HC16_19 := hJ (bt (bt HX48.out HB58.out) HB59.out)
       have HP8w19 := hJ (BX.new HP8w16.out HC16_19.out)
       have HS60 : Hid (∀ w', Below x59.heap.size x59 w' → (fun w' : World => w'.cell? ⟨g3_5, i10 * 4, none⟩ = some (.bool s15) ∧ w'.cell? ⟨g3_5, i10 * 4 + 1, none⟩ = some (.slice A15 n15 c15) ∧ w'.cell? ⟨g3_5, i10 * 4 + 2, none⟩ = some (.bool t15) ∧ w'.cell? ⟨g3_5, i10 * 4 + 3, none⟩ = some (.slice B15 m15 d15) ∧ w'.cell? ⟨g3_5, i11 * 4, none⟩ = some (.bool s16) ∧ w'.cell? ⟨g3_5, i11 * 4 + 1, none⟩ = some (.slice A16 n16 c16) ∧ w'.cell? ⟨g3_5, i11 * 4 + 2, none⟩ = some (.bool t16) ∧ w'.cell? ⟨g3_5, i11 * 4 + 3, none⟩ = some (.slice B16 m16 d16) ∧ Below x59.heap.size x59 w') w') := hJ (fun w' hb => ⟨(BX.new HP8w19.out hb).cell (i10 * 4) HS15_0.out, (BX.new HP8w19.out hb).cell (i10 * 4 + 1) HS15_1.out, (BX.new HP8w19.out hb).cell (i10 * 4 + 2) HS15_2.out, (BX.new HP8w19.out hb).cell (i10 * 4 + 3) HS15_3.out, (BX.new HP8w19.out hb).cell (i11 * 4) HS16_0.out, (BX.new HP8w19.out hb).cell (i11 * 4 + 1) HS16_1.out, (BX.new HP8w19.out hb).cell (i11 * 4 + 2) HS16_2.out, (BX.new HP8w19.out hb).cell (i11 * 4 + 3) HS16_3.out, hb⟩)
       have HRP15w19 := hJ (RNo.new HRP15w16.out HC16_19.out)
       have HRQ15w19 := hJ (RNo.new HRQ15w16.out HC16_19.out)
       have HRP16w19 := hJ (RNo.new HRP16w16.out HC16_19.out)
       have HRQ16w19 := hJ (RNo.new HRQ16w16.out HC16_19.out)
       go_wp2_with fail
       clear hx59
       obtain ⟨v60, hv60⟩ := nmz (World.drew x59)
       have HX60 := hJ (show Below x59.heap.size x59 v60 by rw [← hv60]; exact (Below.refl _ _).drew)
       refine wp_region_held_drew (S := (fun w' : World => w'.cell? ⟨g3_5, i10 * 4, none⟩ = some (.bool s15) ∧ w'.cell? ⟨g3_5, i10 * 4 + 1, none⟩ = some (.slice A15 n15 c15) ∧ w'.cell? ⟨g3_5, i10 * 4 + 2, none⟩ = some (.bool t15) ∧ w'.cell? ⟨g3_5, i10 * 4 + 3, none⟩ = some (.slice B15 m15 d15) ∧ w'.cell? ⟨g3_5, i11 * 4, none⟩ = some (.bool s16) ∧ w'.cell? ⟨g3_5, i11 * 4 + 1, none⟩ = some (.slice A16 n16 c16) ∧ w'.cell? ⟨g3_5, i11 * 4 + 2, none⟩ = some (.bool t16) ∧ w'.cell? ⟨g3_5, i11 * 4 + 3, none⟩ = some (.slice B16 m16 d16) ∧ Below x59.heap.size x59 w')) (by kernel_rfl) ?_ (fun hHeld => ?_)
       ·rw [hv60]
        exact HS60.out _ HX60.out
       rw [hv60] at hHeld ⊢
       clear hv60
       refine tq 0 ?_
       try simp only [PT]
       refine tq 1 ?_
       try simp only [PT]
       refine tq 2 ?_
       try simp only [PT]
       refine tq 3 ?_
       try simp only [PT]
       refine tq 4 ?_
       try simp only [PT]
       refine tq 5 ?_
       try simp only [PT]
       refine tq 6 ?_
       try simp only [PT]
       refine tq 7 ?_
       try simp only [PT]
       refine wpAnyH_name (fun F hF a0 ha0 L0 hL0 => ?_)
       have J17_8_12 : ∀ (s36 : Bool) (A36 : Option Addr) (n36 : Nat) (c36 : Nat) (t36 : Bool) (B36 : Option Addr) (m36 : Nat) (d36 : Nat) (g17_12 : Nat) (v : World), Hid (Below x59.heap.size x59 v) → Hid (RN v s36 A36 n36 c36 P31) → Hid (RN v t36 B36 m36 d36 Q32) → Hid (BX 41 v g17_12 #[.bool false, .slice none 0 0, .bool false, .slice none 0 0]) → Hid (x59.heap.size ≤ g17_12) → F 2 (Array.setIfInBounds (Array.setIfInBounds (Array.setIfInBounds (Array.setIfInBounds (Array.setIfInBounds L0 8 true) 12 true) 9 true) 10 true) 11 true) (Act.put (Act.put (Act.put (Act.put (Act.put a0 (some 105) (.tuple #[.agg #[.bool s36, .slice A36 n36 c36, .bool t36, .slice B36 m36 d36], .int .i64 C33])) (some 20) (.pointer (some ⟨g17_12, 0, none⟩))) (some 96) (.tuple #[.agg #[.bool s36, .slice A36 n36 c36, .bool t36, .slice B36 m36 d36], .int .i64 C33])) (some 106) (.agg #[.bool s36, .slice A36 n36 c36, .bool t36, .slice B36 m36 d36])) (some 107) (.int .i64 C33)) v := by
        intro s36 A36 n36 c36 t36 B36 m36 d36 g17_12 v HXj HZ8hr36j HZ8hs36j HPg17_12j HGg17_12j
        subst hF ha0 hL0
        simp only [PT] at  ⊢
        have hHeld := HS60.out _ HXj.out
        refine wpAnyH_ready (rs := [13]) (by kernel_rfl) (by simp) ?_
        refine .cons rfl (fun K hK => ?_) .nil
        have z61_0 := HPg17_12j.out.cell 0 rfl
        have y61_0 := HPg17_12j.out.frozen 0
        have z61_1 := HPg17_12j.out.cell 1 rfl
        have y61_1 := HPg17_12j.out.frozen 1
        have z61_2 := HPg17_12j.out.cell 2 rfl
        have y61_2 := HPg17_12j.out.frozen 2
        have z61_3 := HPg17_12j.out.cell 3 rfl
        have y61_3 := HPg17_12j.out.frozen 3
        have z61 := HPg17_12j.out.lt
        go_simp
        obtain ⟨v61, hV⟩ := nmz (World.setCell (World.setCell (World.setCell (World.setCell v ⟨g17_12, 0, none⟩ (.bool s36)) ⟨g17_12, 1, none⟩ (.slice A36 n36 c36)) ⟨g17_12, 2, none⟩ (.bool t36)) ⟨g17_12, 3, none⟩ (.slice B36 m36 d36))
        rw [hV]
        have HE61 := hJ (show sto v g17_12 0 [.bool s36, .slice A36 n36 c36, .bool t36, .slice B36 m36 d36] = v61 from hV)
        clear hV z61 z61_0 y61_0 z61_1 y61_1 z61_2 y61_2 z61_3 y61_3
        have HX61 := hJ (show Below x59.heap.size x59 v61 by rw [← HE61.out]; exact below_sto HXj.out HGg17_12j.out _ _)
        have HZ61_0 := hJ (show RN v61 s36 A36 n36 c36 P31 by rw [← HE61.out]; exact RNo.sto HZ8hr36j.out HPg17_12j.out rfl _ _)
        have HZ61_1 := hJ (show RN v61 t36 B36 m36 d36 Q32 by rw [← HE61.out]; exact RNo.sto HZ8hs36j.out HPg17_12j.out rfl _ _)
        have HP61g17_12 := hJ (show BX 41 v61 g17_12 #[.bool s36, .slice A36 n36 c36, .bool t36, .slice B36 m36 d36] by rw [← HE61.out]; exact BX.put HPg17_12j.out _ _)
        clear hHeld
        refine hK.out _ _ (HS60.out _ HX61.out) (fun hHeld => ?_)
        clear hK K
        try simp only [PT]
        refine tq 14 ?_
        try simp only [PT]
        refine wpAnyH_done (by kernel_rfl) ?_ _
        clear hHeld
        have HL62 := hJ (show g17_12 < v61.heap.size from HP61g17_12.out.lt)
        have HC17_20 := hJ (bt (bt HB58.out HB59.out) HX61.out)
        have HQ17x0w20 := hJ (BX.new HQ17x0w17.out HC17_20.out)
        obtain ⟨cl63, cl64, cl65, cl66⟩ := HQ17x0w20.out.c4 0 1 2 3 rfl rfl rfl rfl
        have HQ23x0w20 := hJ (BX.new HQ23x0w17.out HC17_20.out)
        obtain ⟨cl67, cl68, cl69, cl70⟩ := HQ23x0w20.out.c4 0 1 2 3 rfl rfl rfl rfl
        obtain ⟨P37, hP37⟩ := nmz (dvP p15 q15 p16 q16)
        have HEP37 := hJ hP37
        clear hP37
        obtain ⟨Q38, hQ38⟩ := nmz (dvQ p15 q15 p16 q16)
        have HEQ38 := hJ hQ38
        clear hQ38
        obtain ⟨C39, hC39⟩ := nmz (dvC p15 q15 p16 q16)
        have HEC39 := hJ hC39
        clear hC39
        have HF40 := hJ (show Fr P37 Q38 by rw [← HEP37.out, ← HEQ38.out]; exact fr_dv HFV15.out HFV16.out)
        have HR16hr17w20 := hJ (PF.new HR16hr17w17.out HC17_20.out)
        have HR22hr18w20 := hJ (PF.new HR22hr18w17.out HC17_20.out)
        go_wp2_with fail
        clear cl63 cl64 cl65 cl66 cl67 cl68 cl69 cl70
        refine (fdiv_any p15 q15 p16 q16 s17 t17 s18 t18 A17 B17 A18 B18 n17 c17 m17 d17 n18 c18 m18 d18 v61 HR16hr17w20.out HR22hr18w20.out HFV15.out.1.1 HFV16.out.1.1 HFV15.out.2.1 HFV15.out.2.2 HFV16.out.2.1 HFV16.out.2.2).mono ?_
        rw [HEP37.out, HEQ38.out, HEC39.out]
        rintro e w71 ⟨s41, A41, n41, c41, t41, B41, m41, d41, rfl, hr41, hb⟩
        have HB71 := hJ hb
        have HR71hr41 := hJ hr41
        clear hb hr41
        obtain ⟨x72, hx72⟩ := nmz (w71.alloc (.cells #[.bool s41, .slice A41 n41 c41, .bool t41, .slice B41 m41 d41] 35))
        have HB72 := hJ (show Below w71.heap.size w71 x72 by rw [← hx72]; exact ((Below.refl _ _).alloc (Nat.le_refl _) _))
        have HQ72x0 := hJ (show BX 35 x72 w71.heap.size #[.bool s41, .slice A41 n41 c41, .bool t41, .slice B41 m41 d41] by rw [← hx72]; exact (BX.at rfl))
        have HG72x0 := hJ (show w71.heap.size ≤ w71.heap.size by omega)
        have HL72x0 := hJ (show w71.heap.size < x72.heap.size from HQ72x0.out.lt)
        have HC19_22 := hJ (bt (bt HX61.out HB71.out) HB72.out)
        have HP8w22 := hJ (BX.new HP8w19.out HC19_22.out)
        have HS73 : Hid (∀ w', Below x72.heap.size x72 w' → (fun w' : World => w'.cell? ⟨g3_5, i10 * 4, none⟩ = some (.bool s15) ∧ w'.cell? ⟨g3_5, i10 * 4 + 1, none⟩ = some (.slice A15 n15 c15) ∧ w'.cell? ⟨g3_5, i10 * 4 + 2, none⟩ = some (.bool t15) ∧ w'.cell? ⟨g3_5, i10 * 4 + 3, none⟩ = some (.slice B15 m15 d15) ∧ w'.cell? ⟨g3_5, i11 * 4, none⟩ = some (.bool s16) ∧ w'.cell? ⟨g3_5, i11 * 4 + 1, none⟩ = some (.slice A16 n16 c16) ∧ w'.cell? ⟨g3_5, i11 * 4 + 2, none⟩ = some (.bool t16) ∧ w'.cell? ⟨g3_5, i11 * 4 + 3, none⟩ = some (.slice B16 m16 d16) ∧ Below x72.heap.size x72 w') w') := hJ (fun w' hb => ⟨(BX.new HP8w22.out hb).cell (i10 * 4) HS15_0.out, (BX.new HP8w22.out hb).cell (i10 * 4 + 1) HS15_1.out, (BX.new HP8w22.out hb).cell (i10 * 4 + 2) HS15_2.out, (BX.new HP8w22.out hb).cell (i10 * 4 + 3) HS15_3.out, (BX.new HP8w22.out hb).cell (i11 * 4) HS16_0.out, (BX.new HP8w22.out hb).cell (i11 * 4 + 1) HS16_1.out, (BX.new HP8w22.out hb).cell (i11 * 4 + 2) HS16_2.out, (BX.new HP8w22.out hb).cell (i11 * 4 + 3) HS16_3.out, hb⟩)
        have HRP15w22 := hJ (RNo.new HRP15w19.out HC19_22.out)
        have HRQ15w22 := hJ (RNo.new HRQ15w19.out HC19_22.out)
        have HRP16w22 := hJ (RNo.new HRP16w19.out HC19_22.out)
        have HRQ16w22 := hJ (RNo.new HRQ16w19.out HC19_22.out)
        go_wp2_with fail
        clear hx72
        obtain ⟨v73, hv73⟩ := nmz (World.drew x72)
        have HX73 := hJ (show Below x72.heap.size x72 v73 by rw [← hv73]; exact (Below.refl _ _).drew)
        refine wp_region_held_drew (S := (fun w' : World => w'.cell? ⟨g3_5, i10 * 4, none⟩ = some (.bool s15) ∧ w'.cell? ⟨g3_5, i10 * 4 + 1, none⟩ = some (.slice A15 n15 c15) ∧ w'.cell? ⟨g3_5, i10 * 4 + 2, none⟩ = some (.bool t15) ∧ w'.cell? ⟨g3_5, i10 * 4 + 3, none⟩ = some (.slice B15 m15 d15) ∧ w'.cell? ⟨g3_5, i11 * 4, none⟩ = some (.bool s16) ∧ w'.cell? ⟨g3_5, i11 * 4 + 1, none⟩ = some (.slice A16 n16 c16) ∧ w'.cell? ⟨g3_5, i11 * 4 + 2, none⟩ = some (.bool t16) ∧ w'.cell? ⟨g3_5, i11 * 4 + 3, none⟩ = some (.slice B16 m16 d16) ∧ Below x72.heap.size x72 w')) (by kernel_rfl) ?_ (fun hHeld => ?_)
        ·rw [hv73]
         exact HS73.out _ HX73.out
        rw [hv73] at hHeld ⊢
        clear hv73
        refine tq 0 ?_
        try simp only [PT]
        refine tq 1 ?_
        try simp only [PT]
        refine tq 2 ?_
        try simp only [PT]
        refine tq 3 ?_
        try simp only [PT]
        refine tq 4 ?_
        try simp only [PT]
        refine tq 5 ?_
        try simp only [PT]
        refine tq 6 ?_
        try simp only [PT]
        refine tq 7 ?_
        try simp only [PT]
        refine wpAnyH_name (fun F hF a0 ha0 L0 hL0 => ?_)
        have J19_8_12 : ∀ (s42 : Bool) (A42 : Option Addr) (n42 : Nat) (c42 : Nat) (t42 : Bool) (B42 : Option Addr) (m42 : Nat) (d42 : Nat) (g19_12 : Nat) (v : World), Hid (Below x72.heap.size x72 v) → Hid (RN v s42 A42 n42 c42 P37) → Hid (RN v t42 B42 m42 d42 Q38) → Hid (BX 41 v g19_12 #[.bool false, .slice none 0 0, .bool false, .slice none 0 0]) → Hid (x72.heap.size ≤ g19_12) → F 2 (Array.setIfInBounds (Array.setIfInBounds (Array.setIfInBounds (Array.setIfInBounds (Array.setIfInBounds L0 8 true) 12 true) 9 true) 10 true) 11 true) (Act.put (Act.put (Act.put (Act.put (Act.put a0 (some 123) (.tuple #[.agg #[.bool s42, .slice A42 n42 c42, .bool t42, .slice B42 m42 d42], .int .i64 C39])) (some 24) (.pointer (some ⟨g19_12, 0, none⟩))) (some 114) (.tuple #[.agg #[.bool s42, .slice A42 n42 c42, .bool t42, .slice B42 m42 d42], .int .i64 C39])) (some 124) (.agg #[.bool s42, .slice A42 n42 c42, .bool t42, .slice B42 m42 d42])) (some 125) (.int .i64 C39)) v := by
         intro s42 A42 n42 c42 t42 B42 m42 d42 g19_12 v HXj HZ8hr42j HZ8hs42j HPg19_12j HGg19_12j
         subst hF ha0 hL0
         simp only [PT] at  ⊢
         have hHeld := HS73.out _ HXj.out
         refine wpAnyH_ready (rs := [13]) (by kernel_rfl) (by simp) ?_
         refine .cons rfl (fun K hK => ?_) .nil
         have z74_0 := HPg19_12j.out.cell 0 rfl
         have y74_0 := HPg19_12j.out.frozen 0
         have z74_1 := HPg19_12j.out.cell 1 rfl
         have y74_1 := HPg19_12j.out.frozen 1
         have z74_2 := HPg19_12j.out.cell 2 rfl
         have y74_2 := HPg19_12j.out.frozen 2
         have z74_3 := HPg19_12j.out.cell 3 rfl
         have y74_3 := HPg19_12j.out.frozen 3
         have z74 := HPg19_12j.out.lt
         go_simp
         obtain ⟨v74, hV⟩ := nmz (World.setCell (World.setCell (World.setCell (World.setCell v ⟨g19_12, 0, none⟩ (.bool s42)) ⟨g19_12, 1, none⟩ (.slice A42 n42 c42)) ⟨g19_12, 2, none⟩ (.bool t42)) ⟨g19_12, 3, none⟩ (.slice B42 m42 d42))
         rw [hV]
         have HE74 := hJ (show sto v g19_12 0 [.bool s42, .slice A42 n42 c42, .bool t42, .slice B42 m42 d42] = v74 from hV)
         clear hV z74 z74_0 y74_0 z74_1 y74_1 z74_2 y74_2 z74_3 y74_3
         have HX74 := hJ (show Below x72.heap.size x72 v74 by rw [← HE74.out]; exact below_sto HXj.out HGg19_12j.out _ _)
         have HZ74_0 := hJ (show RN v74 s42 A42 n42 c42 P37 by rw [← HE74.out]; exact RNo.sto HZ8hr42j.out HPg19_12j.out rfl _ _)
         have HZ74_1 := hJ (show RN v74 t42 B42 m42 d42 Q38 by rw [← HE74.out]; exact RNo.sto HZ8hs42j.out HPg19_12j.out rfl _ _)
         have HP74g19_12 := hJ (show BX 41 v74 g19_12 #[.bool s42, .slice A42 n42 c42, .bool t42, .slice B42 m42 d42] by rw [← HE74.out]; exact BX.put HPg19_12j.out _ _)
         clear hHeld
         refine hK.out _ _ (HS73.out _ HX74.out) (fun hHeld => ?_)
         clear hK K
         try simp only [PT]
         refine tq 14 ?_
         try simp only [PT]
         refine wpAnyH_done (by kernel_rfl) ?_ _
         clear hHeld
         have HL75 := hJ (show g19_12 < v74.heap.size from HP74g19_12.out.lt)
         have HC13_23 := hJ (bt (bt (bt (bt (bt (bt (bt HC13_16.out HX48.out) HB58.out) HB59.out) HX61.out) HB71.out) HB72.out) HX74.out)
         have HQ33x0w23 := hJ (BX.new HQ33x0.out HC13_23.out)
         obtain ⟨cl76, cl77, cl78, cl79⟩ := HQ33x0w23.out.c4 0 1 2 3 rfl rfl rfl rfl
         have HC14_23 := hJ (bt (bt (bt (bt (bt (bt HC14_17.out HB58.out) HB59.out) HX61.out) HB71.out) HB72.out) HX74.out)
         have HP35g13_12w23 := hJ (BX.new HP35g13_12.out HC14_23.out)
         obtain ⟨cl80, cl81, cl82, cl83⟩ := HP35g13_12w23.out.c4 0 1 2 3 rfl rfl rfl rfl
         have HC12_23 := hJ (bt (bt (bt (bt (bt (bt (bt (bt (bt (bt HB33.out HX35.out) HB45.out) HB46.out) HX48.out) HB58.out) HB59.out) HX61.out) HB71.out) HB72.out) HX74.out)
         have HR32hr23w23 := hJ (PF.new HR32hr23.out HC12_23.out)
         have HZ35_0w23 := hJ (RNo.new HZ35_0.out HC14_23.out)
         have HZ35_1w23 := hJ (RNo.new HZ35_1.out HC14_23.out)
         go_wp2_with fail
         clear cl76 cl77 cl78 cl79 cl80 cl81 cl82 cl83
         refine (l4same_any P19 Q20 P19 Q20 s23 t23 s24 t24 A23 B23 A24 B24 n23 c23 m23 d23 n24 c24 m24 d24 v74 HR32hr23w23.out HZ35_0w23.out HZ35_1w23.out HF22.out HF22.out.2.1 HF22.out.2.2).mono ?_
         rw [eqF_self]
         rintro e w84 ⟨rfl, hb⟩
         have HB84 := hJ hb
         clear hb
         have HC16_24 := hJ (bt (bt (bt (bt (bt HC16_19.out HX61.out) HB71.out) HB72.out) HX74.out) HB84.out)
         have HQ46x0w24 := hJ (BX.new HQ46x0.out HC16_24.out)
         obtain ⟨cl85, cl86, cl87, cl88⟩ := HQ46x0w24.out.c4 0 1 2 3 rfl rfl rfl rfl
         have HC17_24 := hJ (bt (bt (bt (bt HC17_20.out HB71.out) HB72.out) HX74.out) HB84.out)
         have HP48g15_12w24 := hJ (BX.new HP48g15_12.out HC17_24.out)
         obtain ⟨cl89, cl90, cl91, cl92⟩ := HP48g15_12w24.out.c4 0 1 2 3 rfl rfl rfl rfl
         have HC15_24 := hJ (bt (bt (bt (bt (bt (bt (bt (bt HB46.out HX48.out) HB58.out) HB59.out) HX61.out) HB71.out) HB72.out) HX74.out) HB84.out)
         have HR45hr29w24 := hJ (PF.new HR45hr29.out HC15_24.out)
         have HZ48_0w24 := hJ (RNo.new HZ48_0.out HC17_24.out)
         have HZ48_1w24 := hJ (RNo.new HZ48_1.out HC17_24.out)
         go_wp2_with fail
         clear cl85 cl86 cl87 cl88 cl89 cl90 cl91 cl92
         refine (l4same_any P25 Q26 P25 Q26 s29 t29 s30 t30 A29 B29 A30 B30 n29 c29 m29 d29 n30 c30 m30 d30 w84 HR45hr29w24.out HZ48_0w24.out HZ48_1w24.out HF28.out HF28.out.2.1 HF28.out.2.2).mono ?_
         rw [eqF_self]
         rintro e w93 ⟨rfl, hb⟩
         have HB93 := hJ hb
         clear hb
         have HC19_25 := hJ (bt (bt (bt HC19_22.out HX74.out) HB84.out) HB93.out)
         have HQ59x0w25 := hJ (BX.new HQ59x0.out HC19_25.out)
         obtain ⟨cl94, cl95, cl96, cl97⟩ := HQ59x0w25.out.c4 0 1 2 3 rfl rfl rfl rfl
         have HC20_25 := hJ (bt (bt (bt (bt HB71.out HB72.out) HX74.out) HB84.out) HB93.out)
         have HP61g17_12w25 := hJ (BX.new HP61g17_12.out HC20_25.out)
         obtain ⟨cl98, cl99, cl100, cl101⟩ := HP61g17_12w25.out.c4 0 1 2 3 rfl rfl rfl rfl
         have HC18_25 := hJ (bt (bt (bt (bt (bt (bt HB59.out HX61.out) HB71.out) HB72.out) HX74.out) HB84.out) HB93.out)
         have HR58hr35w25 := hJ (PF.new HR58hr35.out HC18_25.out)
         have HZ61_0w25 := hJ (RNo.new HZ61_0.out HC20_25.out)
         have HZ61_1w25 := hJ (RNo.new HZ61_1.out HC20_25.out)
         go_wp2_with fail
         clear cl94 cl95 cl96 cl97 cl98 cl99 cl100 cl101
         refine (l4same_any P31 Q32 P31 Q32 s35 t35 s36 t36 A35 B35 A36 B36 n35 c35 m35 d35 n36 c36 m36 d36 w93 HR58hr35w25.out HZ61_0w25.out HZ61_1w25.out HF34.out HF34.out.2.1 HF34.out.2.2).mono ?_
         rw [eqF_self]
         rintro e w102 ⟨rfl, hb⟩
         have HB102 := hJ hb
         clear hb
         have HC22_26 := hJ (bt (bt (bt HX74.out HB84.out) HB93.out) HB102.out)
         have HQ72x0w26 := hJ (BX.new HQ72x0.out HC22_26.out)
         obtain ⟨cl103, cl104, cl105, cl106⟩ := HQ72x0w26.out.c4 0 1 2 3 rfl rfl rfl rfl
         have HC23_26 := hJ (bt (bt HB84.out HB93.out) HB102.out)
         have HP74g19_12w26 := hJ (BX.new HP74g19_12.out HC23_26.out)
         obtain ⟨cl107, cl108, cl109, cl110⟩ := HP74g19_12w26.out.c4 0 1 2 3 rfl rfl rfl rfl
         have HC21_26 := hJ (bt (bt (bt (bt HB72.out HX74.out) HB84.out) HB93.out) HB102.out)
         have HR71hr41w26 := hJ (PF.new HR71hr41.out HC21_26.out)
         have HZ74_0w26 := hJ (RNo.new HZ74_0.out HC23_26.out)
         have HZ74_1w26 := hJ (RNo.new HZ74_1.out HC23_26.out)
         go_wp2_with fail
         clear cl103 cl104 cl105 cl106 cl107 cl108 cl109 cl110
         refine (l4same_any P37 Q38 P37 Q38 s41 t41 s42 t42 A41 B41 A42 B42 n41 c41 m41 d41 n42 c42 m42 d42 w102 HR71hr41w26.out HZ74_0w26.out HZ74_1w26.out HF40.out HF40.out.2.1 HF40.out.2.2).mono ?_
         rw [eqF_self]
         rintro e w111 ⟨rfl, hb⟩
         have HB111 := hJ hb
         clear hb
         have HC6_27 := hJ (bt (bt (bt (bt (bt (bt (bt (bt (bt (bt (bt (bt (bt (bt (bt (bt (bt (bt (bt (bt HB11.out HB16.out) HB17.out) HB22.out) HB23.out) HB32.out) HB33.out) HX35.out) HB45.out) HB46.out) HX48.out) HB58.out) HB59.out) HX61.out) HB71.out) HB72.out) HX74.out) HB84.out) HB93.out) HB102.out) HB111.out)
         go_wp2_with fail
         go_roundw
         case rel => exact ⟨i11 + 1, by omega, by go_num, HC6_27.out⟩
         case measure => simp [intOf] <;> omega
        have J19_8 : ∀ (s42 : Bool) (A42 : Option Addr) (n42 : Nat) (c42 : Nat) (t42 : Bool) (B42 : Option Addr) (m42 : Nat) (d42 : Nat) (v : World), Hid (Below x72.heap.size x72 v) → Hid (RN v s42 A42 n42 c42 P37) → Hid (RN v t42 B42 m42 d42 Q38) → F 3 (Array.setIfInBounds (Array.setIfInBounds (Array.setIfInBounds (Array.setIfInBounds L0 8 true) 9 true) 10 true) 11 true) (Act.put (Act.put (Act.put (Act.put a0 (some 123) (.tuple #[.agg #[.bool s42, .slice A42 n42 c42, .bool t42, .slice B42 m42 d42], .int .i64 C39])) (some 114) (.tuple #[.agg #[.bool s42, .slice A42 n42 c42, .bool t42, .slice B42 m42 d42], .int .i64 C39])) (some 124) (.agg #[.bool s42, .slice A42 n42 c42, .bool t42, .slice B42 m42 d42])) (some 125) (.int .i64 C39)) v := by
         intro s42 A42 n42 c42 t42 B42 m42 d42 v HXj HZ8hr42j HZ8hs42j
         subst hF ha0 hL0
         simp only [PT] at J19_8_12 ⊢
         have hHeld := HS73.out _ HXj.out
         refine wpAnyH_ready (rs := [12]) (by kernel_rfl) (by simp) ?_
         refine .cons rfl (fun K hK => ?_) .nil
         go_simp
         have HB112 := hJ ((Below.refl v.heap.size v).alloc (Nat.le_refl _) (.cells #[.bool false, .slice none 0 0, .bool false, .slice none 0 0] 41))
         have HP112 := hJ (BX.lit v 41 #[.bool false, .slice none 0 0, .bool false, .slice none 0 0])
         obtain ⟨v112, hV⟩ := nmz (World.alloc v (.cells #[.bool false, .slice none 0 0, .bool false, .slice none 0 0] 41))
         obtain ⟨g19_12, hg⟩ := nmz (v.heap.size)
         rw [hV] at HB112 HP112 ⊢
         rw [hg] at HP112 ⊢
         have HG112 := hJ (show x72.heap.size ≤ g19_12 by rw [← hg]; exact HXj.out.size)
         clear hV hg
         have HX112 := hJ (bt HXj.out HB112.out)
         have HZ112_0 := hJ (RNo.new HZ8hr42j.out HB112.out)
         have HZ112_1 := hJ (RNo.new HZ8hs42j.out HB112.out)
         clear hHeld
         refine hK.out _ _ (HS73.out _ HX112.out) (fun hHeld => ?_)
         clear hK K
         try simp only [PT]
         exact wpAnyH_cast (by kernel_rfl) (J19_8_12 s42 A42 n42 c42 t42 B42 m42 d42 g19_12 v112 HX112 HZ112_0 HZ112_1 HP112 HG112)
        have J19_12 : ∀ (g19_12 : Nat) (v : World), Hid (Below x72.heap.size x72 v) → Hid (BX 41 v g19_12 #[.bool false, .slice none 0 0, .bool false, .slice none 0 0]) → Hid (x72.heap.size ≤ g19_12) → F 6 (Array.setIfInBounds L0 12 true) (Act.put a0 (some 24) (.pointer (some ⟨g19_12, 0, none⟩))) v := by
         intro g19_12 v HXj HPg19_12j HGg19_12j
         subst hF ha0 hL0
         simp only [PT] at J19_8_12 ⊢
         have hHeld := HS73.out _ HXj.out
         refine wpAnyH_ready (rs := [8]) (by kernel_rfl) (by simp) ?_
         refine .cons rfl (fun K hK => ?_) .nil
         go_simp
         go_at_call 40
         refine (r4div_any p15 q15 p16 q16 (32 * limE) s15 A15 n15 c15 t15 B15 m15 d15 s16 A16 n16 c16 t16 B16 m16 d16 v (RNo.new HRP15w22.out HXj.out) (RNo.new HRQ15w22.out HXj.out) (RNo.new HRP16w22.out HXj.out) (RNo.new HRQ16w22.out HXj.out) (by decide) (fr_rk HFV15.out) (fr_rk HFV16.out)).mono ?_
         rw [HEP37.out, HEQ38.out, HEC39.out]
         rintro e v113 ⟨s42, A42, n42, c42, t42, B42, m42, d42, rfl, hr42, hs42, hb⟩
         have HB113 := hJ hb
         have HR113hr42 := hJ hr42
         have HR113hs42 := hJ hs42
         clear hb hr42 hs42
         go_wp2_with fail
         have HX113 := hJ (bt HXj.out HB113.out)
         have HP113g19_12 := hJ (BX.new HPg19_12j.out HB113.out)
         clear hHeld
         refine hK.out _ _ (HS73.out _ HX113.out) (fun hHeld => ?_)
         clear hK K
         try simp only [PT]
         refine tq 9 ?_
         try simp only [PT]
         refine tq 10 ?_
         try simp only [PT]
         refine tq 11 ?_
         try simp only [PT]
         exact wpAnyH_cast (by kernel_rfl) (J19_8_12 s42 A42 n42 c42 t42 B42 m42 d42 g19_12 v113 HX113 HR113hr42 HR113hs42 HP113g19_12 HGg19_12j)
        subst hF ha0 hL0
        simp only [PT] at J19_8 J19_12
        refine wpAnyH_ready (rs := [8, 12]) (by kernel_rfl) (by simp) ?_
        refine .cons rfl (fun K hK => ?_) ?_
        go_simp
        go_at_call 40
        refine (r4div_any p15 q15 p16 q16 (32 * limE) s15 A15 n15 c15 t15 B15 m15 d15 s16 A16 n16 c16 t16 B16 m16 d16 v73 (RNo.new HRP15w22.out HX73.out) (RNo.new HRQ15w22.out HX73.out) (RNo.new HRP16w22.out HX73.out) (RNo.new HRQ16w22.out HX73.out) (by decide) (fr_rk HFV15.out) (fr_rk HFV16.out)).mono ?_
        rw [HEP37.out, HEQ38.out, HEC39.out]
        rintro e v114 ⟨s42, A42, n42, c42, t42, B42, m42, d42, rfl, hr42, hs42, hb⟩
        have HB114 := hJ hb
        have HR114hr42 := hJ hr42
        have HR114hs42 := hJ hs42
        clear hb hr42 hs42
        go_wp2_with fail
        have HX114 := hJ (bt HX73.out HB114.out)
        clear hHeld
        refine hK.out _ _ (HS73.out _ HX114.out) (fun hHeld => ?_)
        clear hK K
        try simp only [PT]
        refine tq 9 ?_
        try simp only [PT]
        refine tq 10 ?_
        try simp only [PT]
        refine tq 11 ?_
        try simp only [PT]
        exact wpAnyH_cast (by kernel_rfl) (J19_8 s42 A42 n42 c42 t42 B42 m42 d42 v114 HX114 HR114hr42 HR114hs42)
        refine .cons rfl (fun K hK => ?_) .nil
        go_simp
        have HB115 := hJ ((Below.refl v73.heap.size v73).alloc (Nat.le_refl _) (.cells #[.bool false, .slice none 0 0, .bool false, .slice none 0 0] 41))
        have HP115 := hJ (BX.lit v73 41 #[.bool false, .slice none 0 0, .bool false, .slice none 0 0])
        obtain ⟨v115, hV⟩ := nmz (World.alloc v73 (.cells #[.bool false, .slice none 0 0, .bool false, .slice none 0 0] 41))
        obtain ⟨g19_12, hg⟩ := nmz (v73.heap.size)
        rw [hV] at HB115 HP115 ⊢
        rw [hg] at HP115 ⊢
        have HG115 := hJ (show x72.heap.size ≤ g19_12 by rw [← hg]; exact HX73.out.size)
        clear hV hg
        have HX115 := hJ (bt HX73.out HB115.out)
        clear hHeld
        refine hK.out _ _ (HS73.out _ HX115.out) (fun hHeld => ?_)
        clear hK K
        try simp only [PT]
        exact wpAnyH_cast (by kernel_rfl) (J19_12 g19_12 v115 HX115 HP115 HG115)
       have J17_8 : ∀ (s36 : Bool) (A36 : Option Addr) (n36 : Nat) (c36 : Nat) (t36 : Bool) (B36 : Option Addr) (m36 : Nat) (d36 : Nat) (v : World), Hid (Below x59.heap.size x59 v) → Hid (RN v s36 A36 n36 c36 P31) → Hid (RN v t36 B36 m36 d36 Q32) → F 3 (Array.setIfInBounds (Array.setIfInBounds (Array.setIfInBounds (Array.setIfInBounds L0 8 true) 9 true) 10 true) 11 true) (Act.put (Act.put (Act.put (Act.put a0 (some 105) (.tuple #[.agg #[.bool s36, .slice A36 n36 c36, .bool t36, .slice B36 m36 d36], .int .i64 C33])) (some 96) (.tuple #[.agg #[.bool s36, .slice A36 n36 c36, .bool t36, .slice B36 m36 d36], .int .i64 C33])) (some 106) (.agg #[.bool s36, .slice A36 n36 c36, .bool t36, .slice B36 m36 d36])) (some 107) (.int .i64 C33)) v := by
        intro s36 A36 n36 c36 t36 B36 m36 d36 v HXj HZ8hr36j HZ8hs36j
        subst hF ha0 hL0
        simp only [PT] at J17_8_12 ⊢
        have hHeld := HS60.out _ HXj.out
        refine wpAnyH_ready (rs := [12]) (by kernel_rfl) (by simp) ?_
        refine .cons rfl (fun K hK => ?_) .nil
        go_simp
        have HB116 := hJ ((Below.refl v.heap.size v).alloc (Nat.le_refl _) (.cells #[.bool false, .slice none 0 0, .bool false, .slice none 0 0] 41))
        have HP116 := hJ (BX.lit v 41 #[.bool false, .slice none 0 0, .bool false, .slice none 0 0])
        obtain ⟨v116, hV⟩ := nmz (World.alloc v (.cells #[.bool false, .slice none 0 0, .bool false, .slice none 0 0] 41))
        obtain ⟨g17_12, hg⟩ := nmz (v.heap.size)
        rw [hV] at HB116 HP116 ⊢
        rw [hg] at HP116 ⊢
        have HG116 := hJ (show x59.heap.size ≤ g17_12 by rw [← hg]; exact HXj.out.size)
        clear hV hg
        have HX116 := hJ (bt HXj.out HB116.out)
        have HZ116_0 := hJ (RNo.new HZ8hr36j.out HB116.out)
        have HZ116_1 := hJ (RNo.new HZ8hs36j.out HB116.out)
        clear hHeld
        refine hK.out _ _ (HS60.out _ HX116.out) (fun hHeld => ?_)
        clear hK K
        try simp only [PT]
        exact wpAnyH_cast (by kernel_rfl) (J17_8_12 s36 A36 n36 c36 t36 B36 m36 d36 g17_12 v116 HX116 HZ116_0 HZ116_1 HP116 HG116)
       have J17_12 : ∀ (g17_12 : Nat) (v : World), Hid (Below x59.heap.size x59 v) → Hid (BX 41 v g17_12 #[.bool false, .slice none 0 0, .bool false, .slice none 0 0]) → Hid (x59.heap.size ≤ g17_12) → F 6 (Array.setIfInBounds L0 12 true) (Act.put a0 (some 20) (.pointer (some ⟨g17_12, 0, none⟩))) v := by
        intro g17_12 v HXj HPg17_12j HGg17_12j
        subst hF ha0 hL0
        simp only [PT] at J17_8_12 ⊢
        have hHeld := HS60.out _ HXj.out
        refine wpAnyH_ready (rs := [8]) (by kernel_rfl) (by simp) ?_
        refine .cons rfl (fun K hK => ?_) .nil
        go_simp
        go_at_call 38
        refine (r4mul_any p15 q15 p16 q16 (32 * limE) s15 A15 n15 c15 t15 B15 m15 d15 s16 A16 n16 c16 t16 B16 m16 d16 v (RNo.new HRP15w19.out HXj.out) (RNo.new HRQ15w19.out HXj.out) (RNo.new HRP16w19.out HXj.out) (RNo.new HRQ16w19.out HXj.out) (by decide) (fr_rk HFV15.out) (fr_rk HFV16.out)).mono ?_
        rw [HEP31.out, HEQ32.out, HEC33.out]
        rintro e v117 ⟨s36, A36, n36, c36, t36, B36, m36, d36, rfl, hr36, hs36, hb⟩
        have HB117 := hJ hb
        have HR117hr36 := hJ hr36
        have HR117hs36 := hJ hs36
        clear hb hr36 hs36
        go_wp2_with fail
        have HX117 := hJ (bt HXj.out HB117.out)
        have HP117g17_12 := hJ (BX.new HPg17_12j.out HB117.out)
        clear hHeld
        refine hK.out _ _ (HS60.out _ HX117.out) (fun hHeld => ?_)
        clear hK K
        try simp only [PT]
        refine tq 9 ?_
        try simp only [PT]
        refine tq 10 ?_
        try simp only [PT]
        refine tq 11 ?_
        try simp only [PT]
        exact wpAnyH_cast (by kernel_rfl) (J17_8_12 s36 A36 n36 c36 t36 B36 m36 d36 g17_12 v117 HX117 HR117hr36 HR117hs36 HP117g17_12 HGg17_12j)
       subst hF ha0 hL0
       simp only [PT] at J17_8 J17_12
       refine wpAnyH_ready (rs := [8, 12]) (by kernel_rfl) (by simp) ?_
       refine .cons rfl (fun K hK => ?_) ?_
       go_simp
       go_at_call 38
       refine (r4mul_any p15 q15 p16 q16 (32 * limE) s15 A15 n15 c15 t15 B15 m15 d15 s16 A16 n16 c16 t16 B16 m16 d16 v60 (RNo.new HRP15w19.out HX60.out) (RNo.new HRQ15w19.out HX60.out) (RNo.new HRP16w19.out HX60.out) (RNo.new HRQ16w19.out HX60.out) (by decide) (fr_rk HFV15.out) (fr_rk HFV16.out)).mono ?_
       rw [HEP31.out, HEQ32.out, HEC33.out]
       rintro e v118 ⟨s36, A36, n36, c36, t36, B36, m36, d36, rfl, hr36, hs36, hb⟩
       have HB118 := hJ hb
       have HR118hr36 := hJ hr36
       have HR118hs36 := hJ hs36
       clear hb hr36 hs36
       go_wp2_with fail
       have HX118 := hJ (bt HX60.out HB118.out)
       clear hHeld
       refine hK.out _ _ (HS60.out _ HX118.out) (fun hHeld => ?_)
       clear hK K
       try simp only [PT]
       refine tq 9 ?_
       try simp only [PT]
       refine tq 10 ?_
       try simp only [PT]
       refine tq 11 ?_
       try simp only [PT]
       exact wpAnyH_cast (by kernel_rfl) (J17_8 s36 A36 n36 c36 t36 B36 m36 d36 v118 HX118 HR118hr36 HR118hs36)
       refine .cons rfl (fun K hK => ?_) .nil
       go_simp
       have HB119 := hJ ((Below.refl v60.heap.size v60).alloc (Nat.le_refl _) (.cells #[.bool false, .slice none 0 0, .bool false, .slice none 0 0] 41))
       have HP119 := hJ (BX.lit v60 41 #[.bool false, .slice none 0 0, .bool false, .slice none 0 0])
       obtain ⟨v119, hV⟩ := nmz (World.alloc v60 (.cells #[.bool false, .slice none 0 0, .bool false, .slice none 0 0] 41))
       obtain ⟨g17_12, hg⟩ := nmz (v60.heap.size)
       rw [hV] at HB119 HP119 ⊢
       rw [hg] at HP119 ⊢
       have HG119 := hJ (show x59.heap.size ≤ g17_12 by rw [← hg]; exact HX60.out.size)
       clear hV hg
       have HX119 := hJ (bt HX60.out HB119.out)
       clear hHeld
       refine hK.out _ _ (HS60.out _ HX119.out) (fun hHeld => ?_)
       clear hK K
       try simp only [PT]
       exact wpAnyH_cast (by kernel_rfl) (J17_12 g17_12 v119 HX119 HP119 HG119)
      have J15_8 : ∀ (s30 : Bool) (A30 : Option Addr) (n30 : Nat) (c30 : Nat) (t30 : Bool) (B30 : Option Addr) (m30 : Nat) (d30 : Nat) (v : World), Hid (Below x46.heap.size x46 v) → Hid (RN v s30 A30 n30 c30 P25) → Hid (RN v t30 B30 m30 d30 Q26) → F 3 (Array.setIfInBounds (Array.setIfInBounds (Array.setIfInBounds (Array.setIfInBounds L0 8 true) 9 true) 10 true) 11 true) (Act.put (Act.put (Act.put (Act.put a0 (some 87) (.tuple #[.agg #[.bool s30, .slice A30 n30 c30, .bool t30, .slice B30 m30 d30], .int .i64 C27])) (some 78) (.tuple #[.agg #[.bool s30, .slice A30 n30 c30, .bool t30, .slice B30 m30 d30], .int .i64 C27])) (some 88) (.agg #[.bool s30, .slice A30 n30 c30, .bool t30, .slice B30 m30 d30])) (some 89) (.int .i64 C27)) v := by
       intro s30 A30 n30 c30 t30 B30 m30 d30 v HXj HZ8hr30j HZ8hs30j
       subst hF ha0 hL0
       simp only [PT] at J15_8_12 ⊢
       have hHeld := HS47.out _ HXj.out
       refine wpAnyH_ready (rs := [12]) (by kernel_rfl) (by simp) ?_
       refine .cons rfl (fun K hK => ?_) .nil
       go_simp
       have HB120 := hJ ((Below.refl v.heap.size v).alloc (Nat.le_refl _) (.cells #[.bool false, .slice none 0 0, .bool false, .slice none 0 0] 41))
       have HP120 := hJ (BX.lit v 41 #[.bool false, .slice none 0 0, .bool false, .slice none 0 0])
       obtain ⟨v120, hV⟩ := nmz (World.alloc v (.cells #[.bool false, .slice none 0 0, .bool false, .slice none 0 0] 41))
       obtain ⟨g15_12, hg⟩ := nmz (v.heap.size)
       rw [hV] at HB120 HP120 ⊢
       rw [hg] at HP120 ⊢
       have HG120 := hJ (show x46.heap.size ≤ g15_12 by rw [← hg]; exact HXj.out.size)
       clear hV hg
       have HX120 := hJ (bt HXj.out HB120.out)
       have HZ120_0 := hJ (RNo.new HZ8hr30j.out HB120.out)
       have HZ120_1 := hJ (RNo.new HZ8hs30j.out HB120.out)
       clear hHeld
       refine hK.out _ _ (HS47.out _ HX120.out) (fun hHeld => ?_)
       clear hK K
       try simp only [PT]
       exact wpAnyH_cast (by kernel_rfl) (J15_8_12 s30 A30 n30 c30 t30 B30 m30 d30 g15_12 v120 HX120 HZ120_0 HZ120_1 HP120 HG120)
      have J15_12 : ∀ (g15_12 : Nat) (v : World), Hid (Below x46.heap.size x46 v) → Hid (BX 41 v g15_12 #[.bool false, .slice none 0 0, .bool false, .slice none 0 0]) → Hid (x46.heap.size ≤ g15_12) → F 6 (Array.setIfInBounds L0 12 true) (Act.put a0 (some 16) (.pointer (some ⟨g15_12, 0, none⟩))) v := by
       intro g15_12 v HXj HPg15_12j HGg15_12j
       subst hF ha0 hL0
       simp only [PT] at J15_8_12 ⊢
       have hHeld := HS47.out _ HXj.out
       refine wpAnyH_ready (rs := [8]) (by kernel_rfl) (by simp) ?_
       refine .cons rfl (fun K hK => ?_) .nil
       go_simp
       go_at_call 36
       refine (r4sub_any p15 q15 p16 q16 (32 * limE) s15 A15 n15 c15 t15 B15 m15 d15 s16 A16 n16 c16 t16 B16 m16 d16 v (RNo.new HRP15w16.out HXj.out) (RNo.new HRQ15w16.out HXj.out) (RNo.new HRP16w16.out HXj.out) (RNo.new HRQ16w16.out HXj.out) (by decide) (fr_rk HFV15.out) (fr_rk HFV16.out)).mono ?_
       rw [HEP25.out, HEQ26.out, HEC27.out]
       rintro e v121 ⟨s30, A30, n30, c30, t30, B30, m30, d30, rfl, hr30, hs30, hb⟩
       have HB121 := hJ hb
       have HR121hr30 := hJ hr30
       have HR121hs30 := hJ hs30
       clear hb hr30 hs30
       go_wp2_with fail
       have HX121 := hJ (bt HXj.out HB121.out)
       have HP121g15_12 := hJ (BX.new HPg15_12j.out HB121.out)
       clear hHeld
       refine hK.out _ _ (HS47.out _ HX121.out) (fun hHeld => ?_)
       clear hK K
       try simp only [PT]
       refine tq 9 ?_
       try simp only [PT]
       refine tq 10 ?_
       try simp only [PT]
       refine tq 11 ?_
       try simp only [PT]
       exact wpAnyH_cast (by kernel_rfl) (J15_8_12 s30 A30 n30 c30 t30 B30 m30 d30 g15_12 v121 HX121 HR121hr30 HR121hs30 HP121g15_12 HGg15_12j)
      subst hF ha0 hL0
      simp only [PT] at J15_8 J15_12
      refine wpAnyH_ready (rs := [8, 12]) (by kernel_rfl) (by simp) ?_
      refine .cons rfl (fun K hK => ?_) ?_
      go_simp
      go_at_call 36
      refine (r4sub_any p15 q15 p16 q16 (32 * limE) s15 A15 n15 c15 t15 B15 m15 d15 s16 A16 n16 c16 t16 B16 m16 d16 v47 (RNo.new HRP15w16.out HX47.out) (RNo.new HRQ15w16.out HX47.out) (RNo.new HRP16w16.out HX47.out) (RNo.new HRQ16w16.out HX47.out) (by decide) (fr_rk HFV15.out) (fr_rk HFV16.out)).mono ?_
      rw [HEP25.out, HEQ26.out, HEC27.out]
      rintro e v122 ⟨s30, A30, n30, c30, t30, B30, m30, d30, rfl, hr30, hs30, hb⟩
      have HB122 := hJ hb
      have HR122hr30 := hJ hr30
      have HR122hs30 := hJ hs30
      clear hb hr30 hs30
      go_wp2_with fail
      have HX122 := hJ (bt HX47.out HB122.out)
      clear hHeld
      refine hK.out _ _ (HS47.out _ HX122.out) (fun hHeld => ?_)
      clear hK K
      try simp only [PT]
      refine tq 9 ?_
      try simp only [PT]
      refine tq 10 ?_
      try simp only [PT]
      refine tq 11 ?_
      try simp only [PT]
      exact wpAnyH_cast (by kernel_rfl) (J15_8 s30 A30 n30 c30 t30 B30 m30 d30 v122 HX122 HR122hr30 HR122hs30)
      refine .cons rfl (fun K hK => ?_) .nil
      go_simp
      have HB123 := hJ ((Below.refl v47.heap.size v47).alloc (Nat.le_refl _) (.cells #[.bool false, .slice none 0 0, .bool false, .slice none 0 0] 41))
      have HP123 := hJ (BX.lit v47 41 #[.bool false, .slice none 0 0, .bool false, .slice none 0 0])
      obtain ⟨v123, hV⟩ := nmz (World.alloc v47 (.cells #[.bool false, .slice none 0 0, .bool false, .slice none 0 0] 41))
      obtain ⟨g15_12, hg⟩ := nmz (v47.heap.size)
      rw [hV] at HB123 HP123 ⊢
      rw [hg] at HP123 ⊢
      have HG123 := hJ (show x46.heap.size ≤ g15_12 by rw [← hg]; exact HX47.out.size)
      clear hV hg
      have HX123 := hJ (bt HX47.out HB123.out)
      clear hHeld
      refine hK.out _ _ (HS47.out _ HX123.out) (fun hHeld => ?_)
      clear hK K
      try simp only [PT]
      exact wpAnyH_cast (by kernel_rfl) (J15_12 g15_12 v123 HX123 HP123 HG123)
     have J13_8 : ∀ (s24 : Bool) (A24 : Option Addr) (n24 : Nat) (c24 : Nat) (t24 : Bool) (B24 : Option Addr) (m24 : Nat) (d24 : Nat) (v : World), Hid (Below x33.heap.size x33 v) → Hid (RN v s24 A24 n24 c24 P19) → Hid (RN v t24 B24 m24 d24 Q20) → F 3 (Array.setIfInBounds (Array.setIfInBounds (Array.setIfInBounds (Array.setIfInBounds L0 8 true) 9 true) 10 true) 11 true) (Act.put (Act.put (Act.put (Act.put a0 (some 69) (.tuple #[.agg #[.bool s24, .slice A24 n24 c24, .bool t24, .slice B24 m24 d24], .int .i64 C21])) (some 60) (.tuple #[.agg #[.bool s24, .slice A24 n24 c24, .bool t24, .slice B24 m24 d24], .int .i64 C21])) (some 70) (.agg #[.bool s24, .slice A24 n24 c24, .bool t24, .slice B24 m24 d24])) (some 71) (.int .i64 C21)) v := by
      intro s24 A24 n24 c24 t24 B24 m24 d24 v HXj HZ8hr24j HZ8hs24j
      subst hF ha0 hL0
      simp only [PT] at J13_8_12 ⊢
      have hHeld := HS34.out _ HXj.out
      refine wpAnyH_ready (rs := [12]) (by kernel_rfl) (by simp) ?_
      refine .cons rfl (fun K hK => ?_) .nil
      go_simp
      have HB124 := hJ ((Below.refl v.heap.size v).alloc (Nat.le_refl _) (.cells #[.bool false, .slice none 0 0, .bool false, .slice none 0 0] 41))
      have HP124 := hJ (BX.lit v 41 #[.bool false, .slice none 0 0, .bool false, .slice none 0 0])
      obtain ⟨v124, hV⟩ := nmz (World.alloc v (.cells #[.bool false, .slice none 0 0, .bool false, .slice none 0 0] 41))
      obtain ⟨g13_12, hg⟩ := nmz (v.heap.size)
      rw [hV] at HB124 HP124 ⊢
      rw [hg] at HP124 ⊢
      have HG124 := hJ (show x33.heap.size ≤ g13_12 by rw [← hg]; exact HXj.out.size)
      clear hV hg
      have HX124 := hJ (bt HXj.out HB124.out)
      have HZ124_0 := hJ (RNo.new HZ8hr24j.out HB124.out)
      have HZ124_1 := hJ (RNo.new HZ8hs24j.out HB124.out)
      clear hHeld
      refine hK.out _ _ (HS34.out _ HX124.out) (fun hHeld => ?_)
      clear hK K
      try simp only [PT]
      exact wpAnyH_cast (by kernel_rfl) (J13_8_12 s24 A24 n24 c24 t24 B24 m24 d24 g13_12 v124 HX124 HZ124_0 HZ124_1 HP124 HG124)
     have J13_12 : ∀ (g13_12 : Nat) (v : World), Hid (Below x33.heap.size x33 v) → Hid (BX 41 v g13_12 #[.bool false, .slice none 0 0, .bool false, .slice none 0 0]) → Hid (x33.heap.size ≤ g13_12) → F 6 (Array.setIfInBounds L0 12 true) (Act.put a0 (some 12) (.pointer (some ⟨g13_12, 0, none⟩))) v := by
      intro g13_12 v HXj HPg13_12j HGg13_12j
      subst hF ha0 hL0
      simp only [PT] at J13_8_12 ⊢
      have hHeld := HS34.out _ HXj.out
      refine wpAnyH_ready (rs := [8]) (by kernel_rfl) (by simp) ?_
      refine .cons rfl (fun K hK => ?_) .nil
      go_simp
      go_at_call 34
      refine (r4add_any p15 q15 p16 q16 (32 * limE) s15 A15 n15 c15 t15 B15 m15 d15 s16 A16 n16 c16 t16 B16 m16 d16 v (RNo.new HRP15w13.out HXj.out) (RNo.new HRQ15w13.out HXj.out) (RNo.new HRP16w13.out HXj.out) (RNo.new HRQ16w13.out HXj.out) (by decide) (fr_rk HFV15.out) (fr_rk HFV16.out)).mono ?_
      rw [HEP19.out, HEQ20.out, HEC21.out]
      rintro e v125 ⟨s24, A24, n24, c24, t24, B24, m24, d24, rfl, hr24, hs24, hb⟩
      have HB125 := hJ hb
      have HR125hr24 := hJ hr24
      have HR125hs24 := hJ hs24
      clear hb hr24 hs24
      go_wp2_with fail
      have HX125 := hJ (bt HXj.out HB125.out)
      have HP125g13_12 := hJ (BX.new HPg13_12j.out HB125.out)
      clear hHeld
      refine hK.out _ _ (HS34.out _ HX125.out) (fun hHeld => ?_)
      clear hK K
      try simp only [PT]
      refine tq 9 ?_
      try simp only [PT]
      refine tq 10 ?_
      try simp only [PT]
      refine tq 11 ?_
      try simp only [PT]
      exact wpAnyH_cast (by kernel_rfl) (J13_8_12 s24 A24 n24 c24 t24 B24 m24 d24 g13_12 v125 HX125 HR125hr24 HR125hs24 HP125g13_12 HGg13_12j)
     subst hF ha0 hL0
     simp only [PT] at J13_8 J13_12
     refine wpAnyH_ready (rs := [8, 12]) (by kernel_rfl) (by simp) ?_
     refine .cons rfl (fun K hK => ?_) ?_
     go_simp
     go_at_call 34
     refine (r4add_any p15 q15 p16 q16 (32 * limE) s15 A15 n15 c15 t15 B15 m15 d15 s16 A16 n16 c16 t16 B16 m16 d16 v34 (RNo.new HRP15w13.out HX34.out) (RNo.new HRQ15w13.out HX34.out) (RNo.new HRP16w13.out HX34.out) (RNo.new HRQ16w13.out HX34.out) (by decide) (fr_rk HFV15.out) (fr_rk HFV16.out)).mono ?_
     rw [HEP19.out, HEQ20.out, HEC21.out]
     rintro e v126 ⟨s24, A24, n24, c24, t24, B24, m24, d24, rfl, hr24, hs24, hb⟩
     have HB126 := hJ hb
     have HR126hr24 := hJ hr24
     have HR126hs24 := hJ hs24
     clear hb hr24 hs24
     go_wp2_with fail
     have HX126 := hJ (bt HX34.out HB126.out)
     clear hHeld
     refine hK.out _ _ (HS34.out _ HX126.out) (fun hHeld => ?_)
     clear hK K
     try simp only [PT]
     refine tq 9 ?_
     try simp only [PT]
     refine tq 10 ?_
     try simp only [PT]
     refine tq 11 ?_
     try simp only [PT]
     exact wpAnyH_cast (by kernel_rfl) (J13_8 s24 A24 n24 c24 t24 B24 m24 d24 v126 HX126 HR126hr24 HR126hs24)
     refine .cons rfl (fun K hK => ?_) .nil
     go_simp
     have HB127 := hJ ((Below.refl v34.heap.size v34).alloc (Nat.le_refl _) (.cells #[.bool false, .slice none 0 0, .bool false, .slice none 0 0] 41))
     have HP127 := hJ (BX.lit v34 41 #[.bool false, .slice none 0 0, .bool false, .slice none 0 0])
     obtain ⟨v127, hV⟩ := nmz (World.alloc v34 (.cells #[.bool false, .slice none 0 0, .bool false, .slice none 0 0] 41))
     obtain ⟨g13_12, hg⟩ := nmz (v34.heap.size)
     rw [hV] at HB127 HP127 ⊢
     rw [hg] at HP127 ⊢
     have HG127 := hJ (show x33.heap.size ≤ g13_12 by rw [← hg]; exact HX34.out.size)
     clear hV hg
     have HX127 := hJ (bt HX34.out HB127.out)
     clear hHeld
     refine hK.out _ _ (HS34.out _ HX127.out) (fun hHeld => ?_)
     clear hK K
     try simp only [PT]
     exact wpAnyH_cast (by kernel_rfl) (J13_12 g13_12 v127 HX127 HP127 HG127)
    ·(try rw [show ((4 : Nat) : Int) = 4 from rfl])
     have HC5_7 := hJ (bt HB10.out HB11.out)
     go_wp2_with fail
     go_roundw
     case rel => exact ⟨i10 + 1, by omega, by go_num, HC5_7.out⟩
     case measure => simp [intOf] <;> omega
  ·(try rw [show ((4 : Nat) : Int) = 4 from rfl])
   go_wp2_with fail
   refine (l4lives_any wl10).mono ?_
   rintro e w128 ⟨rfl, hb⟩
   have HB128 := hJ hb
   clear hb
   have HC0_7 := hJ (bt (bt (bt (bt (bt HC0_2.out HB3.out) HB4.out) HX8.out) HB10.out) HB128.out)
   go_wp2
   go_ret
   exact ⟨rfl, HC0_7.out⟩
theorem fracSums_law (a0 : Option Addr) (len0 cap0 : Nat) (z0 : List Int) (w : World) (w0 : RowI .i64 w a0 len0 cap0 z0) :
  Calls Tryz.prog 4 #[.slice a0 len0 cap0] w fun e w' => e = .returned (.bool true) ∧ Below w.heap.size w w' := by
 obtain ⟨ls, h1, h2, h3, h4⟩ := w0.open_
 exact fracSums_walk a0 len0 cap0 ls w ⟨h4, by rw [h1]; exact h2, h3⟩
end Go.Proofs.YtbhnaffbgggabaaGreat
