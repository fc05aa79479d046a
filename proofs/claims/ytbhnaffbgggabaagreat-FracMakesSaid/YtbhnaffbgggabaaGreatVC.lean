/- The walk of the law FracMakes. -/
import Derived.Test.YtbhnaffbgggabaaGreatNRs
import Derived.Test.YtbhnaffbgggabaaGreatAD
import Derived.Test.YtbhnaffbgggabaaGreatAG
import Derived.Laws.BytesArg
namespace Go.Proofs.YtbhnaffbgggabaaGreat
open Go.RowKit
attribute [local go_sem ↓] Go.wp_at_zero Go.wp_at_succ
set_option linter.unusedVariables false
set_option linter.unusedSimpArgs false
set_option maxRecDepth 100000 in
set_option maxHeartbeats 6400000 in
theorem fracMakes_walk (n d : Int) (A : Option Addr) (ln c : Nat) (xs : List Int) (w : World) (hn : (Lit.int .i64 n).wf = true) (hd : (Lit.int .i64 d).wf = true) (hg : Got w (.slice A ln c) xs) :
  Calls Tryz.prog 3 #[.int .i64 n, .int .i64 d, .slice A ln c] w fun e w' => e = .returned (.bool true) ∧ Below w.heap.size w w' := by
 have HG := hJ hg
 have HWN := hJ hn
 have HWD := hJ hd
 clear hg hn hd
 go_enter Tryz.func3, Tryz.ntmps3
 go_wp2_with fail
 refine (r4pick_any A ln c xs 0 w HG.out (by omega) (by omega)).mono ?_
 rintro e w1 ⟨x11, rfl, hx11, rfl⟩
 have HWF11 := hJ hx11
 clear hx11
 go_wp2_with fail
 refine (r4pick_any A ln c xs 1 w HG.out (by omega) (by omega)).mono ?_
 rintro e w2 ⟨x12, rfl, hx12, rfl⟩
 have HWF12 := hJ hx12
 clear hx12
 go_wp2_with fail
 refine (r4number_any x11 x12 w HWF11.out HWF12.out).mono ?_
 rintro e w3 ⟨x13, s13, A13, n13, c13, rfl, hr13, hx13, hb⟩
 have HB3 := hJ hb
 have HR3hr13 := hJ hr13
 clear hb hr13
 have HNM13 := hJ hx13
 clear hx13
 obtain ⟨x4, hx4⟩ := nmz (w3.alloc (.cells #[.bool s13, .slice A13 n13 c13] 24))
 have HB4 := hJ (show Below w3.heap.size w3 x4 by rw [← hx4]; exact ((Below.refl _ _).alloc (Nat.le_refl _) _))
 have HQ4x0 := hJ (show BX 24 x4 w3.heap.size #[.bool s13, .slice A13 n13 c13] by rw [← hx4]; exact (BX.at rfl))
 have HG4x0 := hJ (show w3.heap.size ≤ w3.heap.size by omega)
 have HL4x0 := hJ (show w3.heap.size < x4.heap.size from HQ4x0.out.lt)
 have HC0_2 := hJ (bt HB3.out HB4.out)
 have HGw2 := hJ (Got.new HG.out HC0_2.out)
 go_wp2_with fail
 clear hx4
 refine (r4pick_any A ln c xs 2 x4 HGw2.out (by omega) (by omega)).mono ?_
 rintro e w5 ⟨x14, rfl, hx14, rfl⟩
 have HWF14 := hJ hx14
 clear hx14
 go_wp2_with fail
 refine (r4pick_any A ln c xs 3 x4 HGw2.out (by omega) (by omega)).mono ?_
 rintro e w6 ⟨x15, rfl, hx15, rfl⟩
 have HWF15 := hJ hx15
 clear hx15
 go_wp2_with fail
 refine (r4number_any x14 x15 x4 HWF14.out HWF15.out).mono ?_
 rintro e w7 ⟨x16, s16, A16, n16, c16, rfl, hr16, hx16, hb⟩
 have HB7 := hJ hb
 have HR7hr16 := hJ hr16
 clear hb hr16
 have HNM16 := hJ hx16
 clear hx16
 obtain ⟨x8, hx8⟩ := nmz (w7.alloc (.cells #[.bool s16, .slice A16 n16 c16] 24))
 have HB8 := hJ (show Below w7.heap.size w7 x8 by rw [← hx8]; exact ((Below.refl _ _).alloc (Nat.le_refl _) _))
 have HQ8x0 := hJ (show BX 24 x8 w7.heap.size #[.bool s16, .slice A16 n16 c16] by rw [← hx8]; exact (BX.at rfl))
 have HG8x0 := hJ (show w7.heap.size ≤ w7.heap.size by omega)
 have HL8x0 := hJ (show w7.heap.size < x8.heap.size from HQ8x0.out.lt)
 have HC2_4 := hJ (bt HB7.out HB8.out)
 have HQ4x0w4 := hJ (BX.new HQ4x0.out HC2_4.out)
 have HS9 : Hid (∀ w', Below x8.heap.size x8 w' → (fun w' : World => w'.cell? ⟨w3.heap.size, 0, none⟩ = some (.bool s13) ∧ w'.cell? ⟨w3.heap.size, 1, none⟩ = some (.slice A13 n13 c13) ∧ Below x8.heap.size x8 w') w') := hJ (fun w' hb => ⟨(BX.new HQ4x0w4.out hb).cell 0 rfl, (BX.new HQ4x0w4.out hb).cell 1 rfl, hb⟩)
 have HC1_4 := hJ (bt (bt HB4.out HB7.out) HB8.out)
 have HR3hr13w4 := hJ (RNo.new HR3hr13.out HC1_4.out)
 go_wp2_with fail
 clear hx8
 obtain ⟨v9, hv9⟩ := nmz (World.drew x8)
 have HX9 := hJ (show Below x8.heap.size x8 v9 by rw [← hv9]; exact (Below.refl _ _).drew)
 refine wp_region_held_drew (S := (fun w' : World => w'.cell? ⟨w3.heap.size, 0, none⟩ = some (.bool s13) ∧ w'.cell? ⟨w3.heap.size, 1, none⟩ = some (.slice A13 n13 c13) ∧ Below x8.heap.size x8 w')) (by kernel_rfl) ?_ (fun hHeld => ?_)
 ·rw [hv9]
  exact HS9.out _ HX9.out
 rw [hv9] at hHeld ⊢
 clear hv9
 refine tq 0 ?_
 try simp only [PT]
 refine wpAnyH_name (fun F hF a0 ha0 L0 hL0 => ?_)
 have J3_1_2_3 : ∀ (x17 : Int) (s17 : Bool) (A17 : Option Addr) (n17 : Nat) (c17 : Nat) (s18 : Bool) (A18 : Option Addr) (n18 : Nat) (c18 : Nat) (g3_3 : Nat) (v : World), Hid (Below x8.heap.size x8 v) → Hid (RN v s17 A17 n17 c17 x17) → Hid (x17 = ((B2 9000 : Nat) : Int)) → Hid (RN v s18 A18 n18 c18 (x13 * x17)) → Hid (BX 24 v g3_3 #[.bool false, .slice none 0 0]) → Hid (x8.heap.size ≤ g3_3) → F 1 (Array.setIfInBounds (Array.setIfInBounds (Array.setIfInBounds L0 1 true) 2 true) 3 true) (Act.put (Act.put (Act.put a0 (some 32) (.agg #[.bool s17, .slice A17 n17 c17])) (some 33) (.agg #[.bool s18, .slice A18 n18 c18])) (some 9) (.pointer (some ⟨g3_3, 0, none⟩))) v := by
  intro x17 s17 A17 n17 c17 s18 A18 n18 c18 g3_3 v HXj HZ1hr17j HNM17 HZ2hr18j HPg3_3j HGg3_3j
  subst hF ha0 hL0
  simp only [PT] at  ⊢
  have hHeld := HS9.out _ HXj.out
  refine wpAnyH_ready (rs := [4]) (by kernel_rfl) (by simp) ?_
  refine .cons rfl (fun K hK => ?_) .nil
  have z10_0 := HPg3_3j.out.cell 0 rfl
  have y10_0 := HPg3_3j.out.frozen 0
  have z10_1 := HPg3_3j.out.cell 1 rfl
  have y10_1 := HPg3_3j.out.frozen 1
  have z10 := HPg3_3j.out.lt
  go_simp
  obtain ⟨v10, hV⟩ := nmz (World.setCell (World.setCell v ⟨g3_3, 0, none⟩ (.bool s18)) ⟨g3_3, 1, none⟩ (.slice A18 n18 c18))
  rw [hV]
  have HE10 := hJ (show sto v g3_3 0 [.bool s18, .slice A18 n18 c18] = v10 from hV)
  clear hV z10 z10_0 y10_0 z10_1 y10_1
  have HX10 := hJ (show Below x8.heap.size x8 v10 by rw [← HE10.out]; exact below_sto HXj.out HGg3_3j.out _ _)
  have HZ10_0 := hJ (show RN v10 s17 A17 n17 c17 x17 by rw [← HE10.out]; exact RNo.sto HZ1hr17j.out HPg3_3j.out rfl _ _)
  have HZ10_1 := hJ (show RN v10 s18 A18 n18 c18 (x13 * x17) by rw [← HE10.out]; exact RNo.sto HZ2hr18j.out HPg3_3j.out rfl _ _)
  have HP10g3_3 := hJ (show BX 24 v10 g3_3 #[.bool s18, .slice A18 n18 c18] by rw [← HE10.out]; exact BX.put HPg3_3j.out _ _)
  clear hHeld
  refine hK.out _ _ (HS9.out _ HX10.out) (fun hHeld => ?_)
  clear hK K
  try simp only [PT]
  refine wpAnyH_done (by kernel_rfl) ?_ _
  clear hHeld
  have HL11 := hJ (show g3_3 < v10.heap.size from HP10g3_3.out.lt)
  have HQ4x0w5 := hJ (BX.new HQ4x0w4.out HX10.out)
  have HQ8x0w5 := hJ (BX.new HQ8x0.out HX10.out)
  have HS12 : Hid (∀ w', Below v10.heap.size v10 w' → (fun w' : World => w'.cell? ⟨w3.heap.size, 0, none⟩ = some (.bool s13) ∧ w'.cell? ⟨w3.heap.size, 1, none⟩ = some (.slice A13 n13 c13) ∧ w'.cell? ⟨w7.heap.size, 0, none⟩ = some (.bool s16) ∧ w'.cell? ⟨w7.heap.size, 1, none⟩ = some (.slice A16 n16 c16) ∧ w'.cell? ⟨g3_3, 0, none⟩ = some (.bool s18) ∧ w'.cell? ⟨g3_3, 1, none⟩ = some (.slice A18 n18 c18) ∧ Below v10.heap.size v10 w') w') := hJ (fun w' hb => ⟨(BX.new HQ4x0w5.out hb).cell 0 rfl, (BX.new HQ4x0w5.out hb).cell 1 rfl, (BX.new HQ8x0w5.out hb).cell 0 rfl, (BX.new HQ8x0w5.out hb).cell 1 rfl, (BX.new HP10g3_3.out hb).cell 0 rfl, (BX.new HP10g3_3.out hb).cell 1 rfl, hb⟩)
  have HC3_5 := hJ (bt HB8.out HX10.out)
  have HR7hr16w5 := hJ (RNo.new HR7hr16.out HC3_5.out)
  go_wp2_with fail
  obtain ⟨v12, hv12⟩ := nmz (World.drew v10)
  have HX12 := hJ (show Below v10.heap.size v10 v12 by rw [← hv12]; exact (Below.refl _ _).drew)
  refine wp_region_held_drew (S := (fun w' : World => w'.cell? ⟨w3.heap.size, 0, none⟩ = some (.bool s13) ∧ w'.cell? ⟨w3.heap.size, 1, none⟩ = some (.slice A13 n13 c13) ∧ w'.cell? ⟨w7.heap.size, 0, none⟩ = some (.bool s16) ∧ w'.cell? ⟨w7.heap.size, 1, none⟩ = some (.slice A16 n16 c16) ∧ w'.cell? ⟨g3_3, 0, none⟩ = some (.bool s18) ∧ w'.cell? ⟨g3_3, 1, none⟩ = some (.slice A18 n18 c18) ∧ Below v10.heap.size v10 w')) (by kernel_rfl) ?_ (fun hHeld => ?_)
  ·rw [hv12]
   exact HS12.out _ HX12.out
  rw [hv12] at hHeld ⊢
  clear hv12
  refine tq 0 ?_
  try simp only [PT]
  refine tq 1 ?_
  try simp only [PT]
  refine tq 2 ?_
  try simp only [PT]
  refine tq 5 ?_
  try simp only [PT]
  refine tq 7 ?_
  try simp only [PT]
  refine wpAnyH_ready (rs := [3]) (by kernel_rfl) (by simp) ?_
  refine .cons rfl (fun K hK => ?_) .nil
  go_simp
  go_at_call 20
  refine (neg_any x16 s16 A16 n16 c16 v12 (RNo.new HR7hr16w5.out HX12.out) (Nat.le_trans (rlim (RNo.new HR7hr16w5.out HX12.out) (num_lim2 HNM16.out)) (by decide))).mono ?_
  rintro e v13 ⟨s19, A19, n19, c19, rfl, hr19, hb⟩
  have HB13 := hJ hb
  have HR13hr19 := hJ hr19
  clear hb hr19
  go_wp2_with fail
  have HX13 := hJ (bt HX12.out HB13.out)
  clear hHeld
  refine hK.out _ _ (HS12.out _ HX13.out) (fun hHeld => ?_)
  clear hK K
  try simp only [PT]
  refine wpAnyH_ready (rs := [4]) (by kernel_rfl) (by simp) ?_
  refine .cons rfl (fun K hK => ?_) .nil
  go_simp
  go_at_call 21
  refine (of_any 0 v13 (by decide)).mono ?_
  rintro e v14 ⟨s20, A20, n20, c20, rfl, hr20, hb⟩
  have HB14 := hJ hb
  have HR14hr20 := hJ hr20
  clear hb hr20
  go_wp2_with fail
  have HX14 := hJ (bt HX13.out HB14.out)
  have HZ14_0 := hJ (RNo.new HR13hr19.out HB14.out)
  clear hHeld
  refine hK.out _ _ (HS12.out _ HX14.out) (fun hHeld => ?_)
  clear hK K
  try simp only [PT]
  refine wpAnyH_ready (rs := [6]) (by kernel_rfl) (by simp) ?_
  refine .cons rfl (fun K hK => ?_) .nil
  go_simp
  go_at_call 21
  refine (of_any n v14 HWN.out).mono ?_
  rintro e v15 ⟨s21, A21, n21, c21, rfl, hr21, hb⟩
  have HB15 := hJ hb
  have HR15hr21 := hJ hr21
  clear hb hr21
  go_wp2_with fail
  have HX15 := hJ (bt HX14.out HB15.out)
  have HZ15_0 := hJ (RNo.new HZ14_0.out HB15.out)
  have HZ15_1 := hJ (RNo.new HR14hr20.out HB15.out)
  clear hHeld
  refine hK.out _ _ (HS12.out _ HX15.out) (fun hHeld => ?_)
  clear hK K
  try simp only [PT]
  refine wpAnyH_ready (rs := [8]) (by kernel_rfl) (by simp) ?_
  refine .cons rfl (fun K hK => ?_) .nil
  go_simp
  have HB16 := hJ ((Below.refl v15.heap.size v15).alloc (Nat.le_refl _) (.cells #[.bool s13, .slice A13 n13 c13, .bool s16, .slice A16 n16 c16, .bool s19, .slice A19 n19 c19, .bool s20, .slice A20 n20 c20, .bool s21, .slice A21 n21 c21, .bool s18, .slice A18 n18 c18] 24))
  have HP16 := hJ (BX.lit v15 24 #[.bool s13, .slice A13 n13 c13, .bool s16, .slice A16 n16 c16, .bool s19, .slice A19 n19 c19, .bool s20, .slice A20 n20 c20, .bool s21, .slice A21 n21 c21, .bool s18, .slice A18 n18 c18])
  obtain ⟨v16, hV⟩ := nmz (World.alloc v15 (.cells #[.bool s13, .slice A13 n13 c13, .bool s16, .slice A16 n16 c16, .bool s19, .slice A19 n19 c19, .bool s20, .slice A20 n20 c20, .bool s21, .slice A21 n21 c21, .bool s18, .slice A18 n18 c18] 24))
  obtain ⟨g4_8, hg⟩ := nmz (v15.heap.size)
  rw [hV] at HB16 HP16 ⊢
  rw [hg] at HP16 ⊢
  have HG16 := hJ (show v10.heap.size ≤ g4_8 by rw [← hg]; exact HX15.out.size)
  clear hV hg
  have HX16 := hJ (bt HX15.out HB16.out)
  have HZ16_0 := hJ (RNo.new HZ15_0.out HB16.out)
  have HZ16_1 := hJ (RNo.new HZ15_1.out HB16.out)
  have HZ16_2 := hJ (RNo.new HR15hr21.out HB16.out)
  clear hHeld
  refine hK.out _ _ (HS12.out _ HX16.out) (fun hHeld => ?_)
  clear hK K
  try simp only [PT]
  refine tq 9 ?_
  try simp only [PT]
  refine wpAnyH_done (by kernel_rfl) ?_ _
  clear hHeld
  have HL17 := hJ (show g4_8 < v16.heap.size from HP16.out.lt)
  go_wp2_with fail
  go_loopw [11] (fun tv wr => ∃ i : Nat, i ≤ 6 ∧ tv = .int .i64 (i : Int) ∧ Below v16.heap.size v16 wr) (fun tv _ => 6 - (intOf tv).toNat)
  case atStart => exact ⟨0, by omega, rfl, Below.refl _ _⟩
  case round =>
   obtain ⟨i18, hi, rfl, hbel⟩ := hrel
   obtain ⟨wl18, rfl⟩ : ∃ W : World, W = wr := ⟨_, rfl⟩
   have HB18 := hJ hbel
   clear hbel
   rcases (show i18 < 6 ∨ i18 = 6 by omega) with hlt | rfl
   ·have h0i : (0 : Int) ≤ (i18 : Int) := by omega
    have hli : (i18 : Int) < 6 := by omega
    have HC4_7 := hJ (bt (bt HX10.out HX16.out) HB18.out)
    have HR3hr13w7 := hJ (RNo.new HR3hr13w4.out HC4_7.out)
    have HC5_7 := hJ (bt HX16.out HB18.out)
    have HR7hr16w7 := hJ (RNo.new HR7hr16w5.out HC5_7.out)
    have HZ16_0w7 := hJ (RNo.new HZ16_0.out HB18.out)
    have HZ16_1w7 := hJ (RNo.new HZ16_1.out HB18.out)
    have HZ16_2w7 := hJ (RNo.new HZ16_2.out HB18.out)
    have HZ10_1w7 := hJ (RNo.new HZ10_1.out HC5_7.out)
    obtain ⟨s22, A22, n22, c22, x22, h0, h1, h2, h3⟩ : ∃ (s22 : Bool) (A22 : Option Addr) (n22 c22 : Nat) (x22 : Int), (#[.bool s13, .slice A13 n13 c13, .bool s16, .slice A16 n16 c16, .bool s19, .slice A19 n19 c19, .bool s20, .slice A20 n20 c20, .bool s21, .slice A21 n21 c21, .bool s18, .slice A18 n18 c18] : Array Value)[i18 * 2]? = some (.bool s22) ∧ (#[.bool s13, .slice A13 n13 c13, .bool s16, .slice A16 n16 c16, .bool s19, .slice A19 n19 c19, .bool s20, .slice A20 n20 c20, .bool s21, .slice A21 n21 c21, .bool s18, .slice A18 n18 c18] : Array Value)[i18 * 2 + 1]? = some (.slice A22 n22 c22) ∧ RN wl18 s22 A22 n22 c22 x22 ∧ x22.natAbs < lim := by
     have hcs : i18 = 0 ∨ i18 = 1 ∨ i18 = 2 ∨ i18 = 3 ∨ i18 = 4 ∨ i18 = 5 := by omega
     rcases hcs with rfl | rfl | rfl | rfl | rfl | rfl
     ·exact ⟨_, _, _, _, _, rfl, rfl, HR3hr13w7.out, (num_lim2 HNM13.out)⟩
     ·exact ⟨_, _, _, _, _, rfl, rfl, HR7hr16w7.out, (num_lim2 HNM16.out)⟩
     ·exact ⟨_, _, _, _, _, rfl, rfl, HZ16_0w7.out, (show (-x16).natAbs < lim by rw [Int.natAbs_neg]; exact (num_lim2 HNM16.out))⟩
     ·exact ⟨_, _, _, _, _, rfl, rfl, HZ16_1w7.out, (i64_lim (x := 0) (by decide))⟩
     ·exact ⟨_, _, _, _, _, rfl, rfl, HZ16_2w7.out, (i64_lim (x := n) HWN.out)⟩
     ·exact ⟨_, _, _, _, _, rfl, rfl, HZ10_1w7.out, (B2.lim (B2.mul HNM13.out (b2_pow HNM17.out)) (by decide))⟩
    have HS22_0 := hJ h0
    have HS22_1 := hJ h1
    have HRP22 := hJ h2
    have HLV22 := hJ h3
    clear h0 h1 h2 h3
    go_wp2_with fail
    go_loopw [12] (fun tv wr => ∃ i : Nat, i ≤ 3 ∧ tv = .int .i64 (i : Int) ∧ Below wl18.heap.size wl18 wr) (fun tv _ => 3 - (intOf tv).toNat)
    case atStart => exact ⟨0, by omega, rfl, Below.refl _ _⟩
    case round =>
     obtain ⟨i19, hi, rfl, hbel⟩ := hrel
     obtain ⟨wl19, rfl⟩ : ∃ W : World, W = wr := ⟨_, rfl⟩
     have HB19 := hJ hbel
     clear hbel
     rcases (show i19 < 3 ∨ i19 = 3 by omega) with hlt | rfl
     ·have h0i : (0 : Int) ≤ (i19 : Int) := by omega
      have hli : (i19 : Int) < 3 := by omega
      have hlx : (i19 : Int) < 6 := by omega
      have HR3hr13w8 := hJ (RNo.new HR3hr13w7.out HB19.out)
      have HR7hr16w8 := hJ (RNo.new HR7hr16w7.out HB19.out)
      have HZ16_0w8 := hJ (RNo.new HZ16_0w7.out HB19.out)
      obtain ⟨s23, A23, n23, c23, x23, h0, h1, h2, h3⟩ : ∃ (s23 : Bool) (A23 : Option Addr) (n23 c23 : Nat) (x23 : Int), (#[.bool s13, .slice A13 n13 c13, .bool s16, .slice A16 n16 c16, .bool s19, .slice A19 n19 c19, .bool s20, .slice A20 n20 c20, .bool s21, .slice A21 n21 c21, .bool s18, .slice A18 n18 c18] : Array Value)[i19 * 2]? = some (.bool s23) ∧ (#[.bool s13, .slice A13 n13 c13, .bool s16, .slice A16 n16 c16, .bool s19, .slice A19 n19 c19, .bool s20, .slice A20 n20 c20, .bool s21, .slice A21 n21 c21, .bool s18, .slice A18 n18 c18] : Array Value)[i19 * 2 + 1]? = some (.slice A23 n23 c23) ∧ RN wl19 s23 A23 n23 c23 x23 ∧ x23.natAbs < lim := by
       have hcs : i19 = 0 ∨ i19 = 1 ∨ i19 = 2 := by omega
       rcases hcs with rfl | rfl | rfl
       ·exact ⟨_, _, _, _, _, rfl, rfl, HR3hr13w8.out, (num_lim2 HNM13.out)⟩
       ·exact ⟨_, _, _, _, _, rfl, rfl, HR7hr16w8.out, (num_lim2 HNM16.out)⟩
       ·exact ⟨_, _, _, _, _, rfl, rfl, HZ16_0w8.out, (show (-x16).natAbs < lim by rw [Int.natAbs_neg]; exact (num_lim2 HNM16.out))⟩
      have HS23_0 := hJ h0
      have HS23_1 := hJ h1
      have HRP23 := hJ h2
      have HLV23 := hJ h3
      clear h0 h1 h2 h3
      obtain ⟨P26, hP26⟩ := nmz (mkP x22 x23)
      have HEP26 := hJ hP26
      clear hP26
      obtain ⟨Q27, hQ27⟩ := nmz (mkQ x22 x23)
      have HEQ27 := hJ hQ27
      clear hQ27
      obtain ⟨C28, hC28⟩ := nmz (mkC x23)
      have HEC28 := hJ hC28
      clear hC28
      have HF29 := hJ (show Fr P26 Q27 by rw [← HEP26.out, ← HEQ27.out]; exact fr_mk HLV22.out HLV23.out)
      have HC6_8 := hJ (bt HB18.out HB19.out)
      have HP16w8 := hJ (BX.new HP16.out HC6_8.out)
      have HS20 : Hid (∀ w', Below wl19.heap.size wl19 w' → (fun w' : World => w'.cell? ⟨g4_8, i18 * 2, none⟩ = some (.bool s22) ∧ w'.cell? ⟨g4_8, i18 * 2 + 1, none⟩ = some (.slice A22 n22 c22) ∧ w'.cell? ⟨g4_8, i19 * 2, none⟩ = some (.bool s23) ∧ w'.cell? ⟨g4_8, i19 * 2 + 1, none⟩ = some (.slice A23 n23 c23) ∧ Below wl19.heap.size wl19 w') w') := hJ (fun w' hb => ⟨(BX.new HP16w8.out hb).cell (i18 * 2) HS22_0.out, (BX.new HP16w8.out hb).cell (i18 * 2 + 1) HS22_1.out, (BX.new HP16w8.out hb).cell (i19 * 2) HS23_0.out, (BX.new HP16w8.out hb).cell (i19 * 2 + 1) HS23_1.out, hb⟩)
      have HRP22w8 := hJ (RNo.new HRP22.out HB19.out)
      go_wp2_with fail
      obtain ⟨v20, hv20⟩ := nmz (World.drew wl19)
      have HX20 := hJ (show Below wl19.heap.size wl19 v20 by rw [← hv20]; exact (Below.refl _ _).drew)
      refine wp_region_held_drew (S := (fun w' : World => w'.cell? ⟨g4_8, i18 * 2, none⟩ = some (.bool s22) ∧ w'.cell? ⟨g4_8, i18 * 2 + 1, none⟩ = some (.slice A22 n22 c22) ∧ w'.cell? ⟨g4_8, i19 * 2, none⟩ = some (.bool s23) ∧ w'.cell? ⟨g4_8, i19 * 2 + 1, none⟩ = some (.slice A23 n23 c23) ∧ Below wl19.heap.size wl19 w')) (by kernel_rfl) ?_ (fun hHeld => ?_)
      ·rw [hv20]
       exact HS20.out _ HX20.out
      rw [hv20] at hHeld ⊢
      clear hv20
      refine tq 0 ?_
      try simp only [PT]
      refine tq 1 ?_
      try simp only [PT]
      refine tq 2 ?_
      try simp only [PT]
      refine tq 3 ?_
      try simp only [PT]
      refine tq 5 ?_
      try simp only [PT]
      refine tq 6 ?_
      try simp only [PT]
      refine tq 7 ?_
      try simp only [PT]
      refine tq 8 ?_
      try simp only [PT]
      refine wpAnyH_name (fun F hF a0 ha0 L0 hL0 => ?_)
      have J11_4_9_10_14 : ∀ (s24 : Bool) (A24 : Option Addr) (n24 : Nat) (c24 : Nat) (s25 : Bool) (A25 : Option Addr) (n25 : Nat) (c25 : Nat) (s30 : Bool) (A30 : Option Addr) (n30 : Nat) (c30 : Nat) (t30 : Bool) (B30 : Option Addr) (m30 : Nat) (d30 : Nat) (g11_14 : Nat) (v : World), Hid (Below wl19.heap.size wl19 v) → Hid (PI v s24 A24 n24 c24 x22) → Hid (PI v s25 A25 n25 c25 x23) → Hid (PF v s30 A30 n30 c30 t30 B30 m30 d30 P26 Q27) → Hid (BX 35 v g11_14 #[.bool false, .slice none 0 0, .bool false, .slice none 0 0]) → Hid (wl19.heap.size ≤ g11_14) → F 2 (Array.setIfInBounds (Array.setIfInBounds (Array.setIfInBounds (Array.setIfInBounds (Array.setIfInBounds (Array.setIfInBounds (Array.setIfInBounds L0 4 true) 9 true) 10 true) 14 true) 11 true) 12 true) 13 true) (Act.put (Act.put (Act.put (Act.put (Act.put (Act.put (Act.put a0 (some 58) (.agg #[.bool s24, .slice A24 n24 c24])) (some 63) (.agg #[.bool s25, .slice A25 n25 c25])) (some 64) (.tuple #[.agg #[.bool s30, .slice A30 n30 c30, .bool t30, .slice B30 m30 d30], .int .i64 C28])) (some 13) (.pointer (some ⟨g11_14, 0, none⟩))) (some 53) (.tuple #[.agg #[.bool s30, .slice A30 n30 c30, .bool t30, .slice B30 m30 d30], .int .i64 C28])) (some 65) (.agg #[.bool s30, .slice A30 n30 c30, .bool t30, .slice B30 m30 d30])) (some 66) (.int .i64 C28)) v := by
       intro s24 A24 n24 c24 s25 A25 n25 c25 s30 A30 n30 c30 t30 B30 m30 d30 g11_14 v HXj HZ4hr24j HZ9hr25j HZ10hr30j HPg11_14j HGg11_14j
       subst hF ha0 hL0
       simp only [PT] at  ⊢
       have hHeld := HS20.out _ HXj.out
       refine wpAnyH_ready (rs := [15]) (by kernel_rfl) (by simp) ?_
       refine .cons rfl (fun K hK => ?_) .nil
       have z21_0 := HPg11_14j.out.cell 0 rfl
       have y21_0 := HPg11_14j.out.frozen 0
       have z21_1 := HPg11_14j.out.cell 1 rfl
       have y21_1 := HPg11_14j.out.frozen 1
       have z21_2 := HPg11_14j.out.cell 2 rfl
       have y21_2 := HPg11_14j.out.frozen 2
       have z21_3 := HPg11_14j.out.cell 3 rfl
       have y21_3 := HPg11_14j.out.frozen 3
       have z21 := HPg11_14j.out.lt
       go_simp
       obtain ⟨v21, hV⟩ := nmz (World.setCell (World.setCell (World.setCell (World.setCell v ⟨g11_14, 0, none⟩ (.bool s30)) ⟨g11_14, 1, none⟩ (.slice A30 n30 c30)) ⟨g11_14, 2, none⟩ (.bool t30)) ⟨g11_14, 3, none⟩ (.slice B30 m30 d30))
       rw [hV]
       have HE21 := hJ (show sto v g11_14 0 [.bool s30, .slice A30 n30 c30, .bool t30, .slice B30 m30 d30] = v21 from hV)
       clear hV z21 z21_0 y21_0 z21_1 y21_1 z21_2 y21_2 z21_3 y21_3
       have HX21 := hJ (show Below wl19.heap.size wl19 v21 by rw [← HE21.out]; exact below_sto HXj.out HGg11_14j.out _ _)
       have HZ21_0 := hJ (show PI v21 s24 A24 n24 c24 x22 by rw [← HE21.out]; exact PIo.sto HZ4hr24j.out HPg11_14j.out rfl _ _)
       have HZ21_1 := hJ (show PI v21 s25 A25 n25 c25 x23 by rw [← HE21.out]; exact PIo.sto HZ9hr25j.out HPg11_14j.out rfl _ _)
       have HZ21_2 := hJ (show PF v21 s30 A30 n30 c30 t30 B30 m30 d30 P26 Q27 by rw [← HE21.out]; exact PF.sto HZ10hr30j.out HPg11_14j.out rfl _ _)
       have HP21g11_14 := hJ (show BX 35 v21 g11_14 #[.bool s30, .slice A30 n30 c30, .bool t30, .slice B30 m30 d30] by rw [← HE21.out]; exact BX.put HPg11_14j.out _ _)
       clear hHeld
       refine hK.out _ _ (HS20.out _ HX21.out) (fun hHeld => ?_)
       clear hK K
       try simp only [PT]
       refine tq 16 ?_
       try simp only [PT]
       refine wpAnyH_done (by kernel_rfl) ?_ _
       clear hHeld
       have HL22 := hJ (show g11_14 < v21.heap.size from HP21g11_14.out.lt)
       have HP16w9 := hJ (BX.new HP16w8.out HX21.out)
       have HS23 : Hid (∀ w', Below v21.heap.size v21 w' → (fun w' : World => w'.cell? ⟨g4_8, i18 * 2, none⟩ = some (.bool s22) ∧ w'.cell? ⟨g4_8, i18 * 2 + 1, none⟩ = some (.slice A22 n22 c22) ∧ w'.cell? ⟨g4_8, i19 * 2, none⟩ = some (.bool s23) ∧ w'.cell? ⟨g4_8, i19 * 2 + 1, none⟩ = some (.slice A23 n23 c23) ∧ Below v21.heap.size v21 w') w') := hJ (fun w' hb => ⟨(BX.new HP16w9.out hb).cell (i18 * 2) HS22_0.out, (BX.new HP16w9.out hb).cell (i18 * 2 + 1) HS22_1.out, (BX.new HP16w9.out hb).cell (i19 * 2) HS23_0.out, (BX.new HP16w9.out hb).cell (i19 * 2 + 1) HS23_1.out, hb⟩)
       have HRP22w9 := hJ (RNo.new HRP22w8.out HX21.out)
       have HRP23w9 := hJ (RNo.new HRP23.out HX21.out)
       go_wp2_with fail
       obtain ⟨v23, hv23⟩ := nmz (World.drew v21)
       have HX23 := hJ (show Below v21.heap.size v21 v23 by rw [← hv23]; exact (Below.refl _ _).drew)
       refine wp_region_held_drew (S := (fun w' : World => w'.cell? ⟨g4_8, i18 * 2, none⟩ = some (.bool s22) ∧ w'.cell? ⟨g4_8, i18 * 2 + 1, none⟩ = some (.slice A22 n22 c22) ∧ w'.cell? ⟨g4_8, i19 * 2, none⟩ = some (.bool s23) ∧ w'.cell? ⟨g4_8, i19 * 2 + 1, none⟩ = some (.slice A23 n23 c23) ∧ Below v21.heap.size v21 w')) (by kernel_rfl) ?_ (fun hHeld => ?_)
       ·rw [hv23]
        exact HS23.out _ HX23.out
       rw [hv23] at hHeld ⊢
       clear hv23
       refine tq 0 ?_
       try simp only [PT]
       refine tq 1 ?_
       try simp only [PT]
       refine tq 2 ?_
       try simp only [PT]
       refine tq 3 ?_
       try simp only [PT]
       refine tq 4 ?_
       try simp only [PT]
       refine tq 5 ?_
       try simp only [PT]
       refine tq 6 ?_
       try simp only [PT]
       refine tq 7 ?_
       try simp only [PT]
       refine wpAnyH_name (fun F hF a0 ha0 L0 hL0 => ?_)
       have J12_8_12 : ∀ (s31 : Bool) (A31 : Option Addr) (n31 : Nat) (c31 : Nat) (t31 : Bool) (B31 : Option Addr) (m31 : Nat) (d31 : Nat) (g12_12 : Nat) (v : World), Hid (Below v21.heap.size v21 v) → Hid (RN v s31 A31 n31 c31 P26) → Hid (RN v t31 B31 m31 d31 Q27) → Hid (BX 41 v g12_12 #[.bool false, .slice none 0 0, .bool false, .slice none 0 0]) → Hid (v21.heap.size ≤ g12_12) → F 2 (Array.setIfInBounds (Array.setIfInBounds (Array.setIfInBounds (Array.setIfInBounds (Array.setIfInBounds L0 8 true) 12 true) 9 true) 10 true) 11 true) (Act.put (Act.put (Act.put (Act.put (Act.put a0 (some 76) (.tuple #[.agg #[.bool s31, .slice A31 n31 c31, .bool t31, .slice B31 m31 d31], .int .i64 C28])) (some 15) (.pointer (some ⟨g12_12, 0, none⟩))) (some 67) (.tuple #[.agg #[.bool s31, .slice A31 n31 c31, .bool t31, .slice B31 m31 d31], .int .i64 C28])) (some 77) (.agg #[.bool s31, .slice A31 n31 c31, .bool t31, .slice B31 m31 d31])) (some 78) (.int .i64 C28)) v := by
        intro s31 A31 n31 c31 t31 B31 m31 d31 g12_12 v HXj HZ8hr31j HZ8hs31j HPg12_12j HGg12_12j
        subst hF ha0 hL0
        simp only [PT] at  ⊢
        have hHeld := HS23.out _ HXj.out
        refine wpAnyH_ready (rs := [13]) (by kernel_rfl) (by simp) ?_
        refine .cons rfl (fun K hK => ?_) .nil
        have z24_0 := HPg12_12j.out.cell 0 rfl
        have y24_0 := HPg12_12j.out.frozen 0
        have z24_1 := HPg12_12j.out.cell 1 rfl
        have y24_1 := HPg12_12j.out.frozen 1
        have z24_2 := HPg12_12j.out.cell 2 rfl
        have y24_2 := HPg12_12j.out.frozen 2
        have z24_3 := HPg12_12j.out.cell 3 rfl
        have y24_3 := HPg12_12j.out.frozen 3
        have z24 := HPg12_12j.out.lt
        go_simp
        obtain ⟨v24, hV⟩ := nmz (World.setCell (World.setCell (World.setCell (World.setCell v ⟨g12_12, 0, none⟩ (.bool s31)) ⟨g12_12, 1, none⟩ (.slice A31 n31 c31)) ⟨g12_12, 2, none⟩ (.bool t31)) ⟨g12_12, 3, none⟩ (.slice B31 m31 d31))
        rw [hV]
        have HE24 := hJ (show sto v g12_12 0 [.bool s31, .slice A31 n31 c31, .bool t31, .slice B31 m31 d31] = v24 from hV)
        clear hV z24 z24_0 y24_0 z24_1 y24_1 z24_2 y24_2 z24_3 y24_3
        have HX24 := hJ (show Below v21.heap.size v21 v24 by rw [← HE24.out]; exact below_sto HXj.out HGg12_12j.out _ _)
        have HZ24_0 := hJ (show RN v24 s31 A31 n31 c31 P26 by rw [← HE24.out]; exact RNo.sto HZ8hr31j.out HPg12_12j.out rfl _ _)
        have HZ24_1 := hJ (show RN v24 t31 B31 m31 d31 Q27 by rw [← HE24.out]; exact RNo.sto HZ8hs31j.out HPg12_12j.out rfl _ _)
        have HP24g12_12 := hJ (show BX 41 v24 g12_12 #[.bool s31, .slice A31 n31 c31, .bool t31, .slice B31 m31 d31] by rw [← HE24.out]; exact BX.put HPg12_12j.out _ _)
        clear hHeld
        refine hK.out _ _ (HS23.out _ HX24.out) (fun hHeld => ?_)
        clear hK K
        try simp only [PT]
        refine tq 14 ?_
        try simp only [PT]
        refine wpAnyH_done (by kernel_rfl) ?_ _
        clear hHeld
        have HL25 := hJ (show g12_12 < v24.heap.size from HP24g12_12.out.lt)
        have HP21g11_14w10 := hJ (BX.new HP21g11_14.out HX24.out)
        obtain ⟨cl26, cl27, cl28, cl29⟩ := HP21g11_14w10.out.c4 0 1 2 3 rfl rfl rfl rfl
        obtain ⟨cl30, cl31, cl32, cl33⟩ := HP24g12_12.out.c4 0 1 2 3 rfl rfl rfl rfl
        have HZ21_2w10 := hJ (PF.new HZ21_2.out HX24.out)
        go_wp2_with fail
        clear cl26 cl27 cl28 cl29 cl30 cl31 cl32 cl33
        refine (l4same_any P26 Q27 P26 Q27 s30 t30 s31 t31 A30 B30 A31 B31 n30 c30 m30 d30 n31 c31 m31 d31 v24 HZ21_2w10.out HZ24_0.out HZ24_1.out HF29.out HF29.out.2.1 HF29.out.2.2).mono ?_
        rw [eqF_self]
        rintro e w34 ⟨rfl, hb⟩
        have HB34 := hJ hb
        clear hb
        have HC7_11 := hJ (bt (bt (bt HB19.out HX21.out) HX24.out) HB34.out)
        go_wp2_with fail
        go_roundw
        case rel => exact ⟨i19 + 1, by omega, by go_num, HC7_11.out⟩
        case measure => simp [intOf] <;> omega
       have J12_8 : ∀ (s31 : Bool) (A31 : Option Addr) (n31 : Nat) (c31 : Nat) (t31 : Bool) (B31 : Option Addr) (m31 : Nat) (d31 : Nat) (v : World), Hid (Below v21.heap.size v21 v) → Hid (RN v s31 A31 n31 c31 P26) → Hid (RN v t31 B31 m31 d31 Q27) → F 3 (Array.setIfInBounds (Array.setIfInBounds (Array.setIfInBounds (Array.setIfInBounds L0 8 true) 9 true) 10 true) 11 true) (Act.put (Act.put (Act.put (Act.put a0 (some 76) (.tuple #[.agg #[.bool s31, .slice A31 n31 c31, .bool t31, .slice B31 m31 d31], .int .i64 C28])) (some 67) (.tuple #[.agg #[.bool s31, .slice A31 n31 c31, .bool t31, .slice B31 m31 d31], .int .i64 C28])) (some 77) (.agg #[.bool s31, .slice A31 n31 c31, .bool t31, .slice B31 m31 d31])) (some 78) (.int .i64 C28)) v := by
        intro s31 A31 n31 c31 t31 B31 m31 d31 v HXj HZ8hr31j HZ8hs31j
        subst hF ha0 hL0
        simp only [PT] at J12_8_12 ⊢
        have hHeld := HS23.out _ HXj.out
        refine wpAnyH_ready (rs := [12]) (by kernel_rfl) (by simp) ?_
        refine .cons rfl (fun K hK => ?_) .nil
        go_simp
        have HB35 := hJ ((Below.refl v.heap.size v).alloc (Nat.le_refl _) (.cells #[.bool false, .slice none 0 0, .bool false, .slice none 0 0] 41))
        have HP35 := hJ (BX.lit v 41 #[.bool false, .slice none 0 0, .bool false, .slice none 0 0])
        obtain ⟨v35, hV⟩ := nmz (World.alloc v (.cells #[.bool false, .slice none 0 0, .bool false, .slice none 0 0] 41))
        obtain ⟨g12_12, hg⟩ := nmz (v.heap.size)
        rw [hV] at HB35 HP35 ⊢
        rw [hg] at HP35 ⊢
        have HG35 := hJ (show v21.heap.size ≤ g12_12 by rw [← hg]; exact HXj.out.size)
        clear hV hg
        have HX35 := hJ (bt HXj.out HB35.out)
        have HZ35_0 := hJ (RNo.new HZ8hr31j.out HB35.out)
        have HZ35_1 := hJ (RNo.new HZ8hs31j.out HB35.out)
        clear hHeld
        refine hK.out _ _ (HS23.out _ HX35.out) (fun hHeld => ?_)
        clear hK K
        try simp only [PT]
        exact wpAnyH_cast (by kernel_rfl) (J12_8_12 s31 A31 n31 c31 t31 B31 m31 d31 g12_12 v35 HX35 HZ35_0 HZ35_1 HP35 HG35)
       have J12_12 : ∀ (g12_12 : Nat) (v : World), Hid (Below v21.heap.size v21 v) → Hid (BX 41 v g12_12 #[.bool false, .slice none 0 0, .bool false, .slice none 0 0]) → Hid (v21.heap.size ≤ g12_12) → F 6 (Array.setIfInBounds L0 12 true) (Act.put a0 (some 15) (.pointer (some ⟨g12_12, 0, none⟩))) v := by
        intro g12_12 v HXj HPg12_12j HGg12_12j
        subst hF ha0 hL0
        simp only [PT] at J12_8_12 ⊢
        have hHeld := HS23.out _ HXj.out
        refine wpAnyH_ready (rs := [8]) (by kernel_rfl) (by simp) ?_
        refine .cons rfl (fun K hK => ?_) .nil
        go_simp
        go_at_call 24
        refine (r4make_any x22 x23 (32 * limE) s22 A22 n22 c22 s23 A23 n23 c23 v (RNo.new HRP22w9.out HXj.out) (RNo.new HRP23w9.out HXj.out) (by decide) (lim_b2 HLV22.out) (lim_b2 HLV23.out)).mono ?_
        rw [HEP26.out, HEQ27.out, HEC28.out]
        rintro e v36 ⟨s31, A31, n31, c31, t31, B31, m31, d31, rfl, hr31, hs31, hb⟩
        have HB36 := hJ hb
        have HR36hr31 := hJ hr31
        have HR36hs31 := hJ hs31
        clear hb hr31 hs31
        go_wp2_with fail
        have HX36 := hJ (bt HXj.out HB36.out)
        have HP36g12_12 := hJ (BX.new HPg12_12j.out HB36.out)
        clear hHeld
        refine hK.out _ _ (HS23.out _ HX36.out) (fun hHeld => ?_)
        clear hK K
        try simp only [PT]
        refine tq 9 ?_
        try simp only [PT]
        refine tq 10 ?_
        try simp only [PT]
        refine tq 11 ?_
        try simp only [PT]
        exact wpAnyH_cast (by kernel_rfl) (J12_8_12 s31 A31 n31 c31 t31 B31 m31 d31 g12_12 v36 HX36 HR36hr31 HR36hs31 HP36g12_12 HGg12_12j)
       subst hF ha0 hL0
       simp only [PT] at J12_8 J12_12
       refine wpAnyH_ready (rs := [8, 12]) (by kernel_rfl) (by simp) ?_
       refine .cons rfl (fun K hK => ?_) ?_
       go_simp
       go_at_call 24
       refine (r4make_any x22 x23 (32 * limE) s22 A22 n22 c22 s23 A23 n23 c23 v23 (RNo.new HRP22w9.out HX23.out) (RNo.new HRP23w9.out HX23.out) (by decide) (lim_b2 HLV22.out) (lim_b2 HLV23.out)).mono ?_
       rw [HEP26.out, HEQ27.out, HEC28.out]
       rintro e v37 ⟨s31, A31, n31, c31, t31, B31, m31, d31, rfl, hr31, hs31, hb⟩
       have HB37 := hJ hb
       have HR37hr31 := hJ hr31
       have HR37hs31 := hJ hs31
       clear hb hr31 hs31
       go_wp2_with fail
       have HX37 := hJ (bt HX23.out HB37.out)
       clear hHeld
       refine hK.out _ _ (HS23.out _ HX37.out) (fun hHeld => ?_)
       clear hK K
       try simp only [PT]
       refine tq 9 ?_
       try simp only [PT]
       refine tq 10 ?_
       try simp only [PT]
       refine tq 11 ?_
       try simp only [PT]
       exact wpAnyH_cast (by kernel_rfl) (J12_8 s31 A31 n31 c31 t31 B31 m31 d31 v37 HX37 HR37hr31 HR37hs31)
       refine .cons rfl (fun K hK => ?_) .nil
       go_simp
       have HB38 := hJ ((Below.refl v23.heap.size v23).alloc (Nat.le_refl _) (.cells #[.bool false, .slice none 0 0, .bool false, .slice none 0 0] 41))
       have HP38 := hJ (BX.lit v23 41 #[.bool false, .slice none 0 0, .bool false, .slice none 0 0])
       obtain ⟨v38, hV⟩ := nmz (World.alloc v23 (.cells #[.bool false, .slice none 0 0, .bool false, .slice none 0 0] 41))
       obtain ⟨g12_12, hg⟩ := nmz (v23.heap.size)
       rw [hV] at HB38 HP38 ⊢
       rw [hg] at HP38 ⊢
       have HG38 := hJ (show v21.heap.size ≤ g12_12 by rw [← hg]; exact HX23.out.size)
       clear hV hg
       have HX38 := hJ (bt HX23.out HB38.out)
       clear hHeld
       refine hK.out _ _ (HS23.out _ HX38.out) (fun hHeld => ?_)
       clear hK K
       try simp only [PT]
       exact wpAnyH_cast (by kernel_rfl) (J12_12 g12_12 v38 HX38 HP38 HG38)
      have J11_4_9_10 : ∀ (s24 : Bool) (A24 : Option Addr) (n24 : Nat) (c24 : Nat) (s25 : Bool) (A25 : Option Addr) (n25 : Nat) (c25 : Nat) (s30 : Bool) (A30 : Option Addr) (n30 : Nat) (c30 : Nat) (t30 : Bool) (B30 : Option Addr) (m30 : Nat) (d30 : Nat) (v : World), Hid (Below wl19.heap.size wl19 v) → Hid (PI v s24 A24 n24 c24 x22) → Hid (PI v s25 A25 n25 c25 x23) → Hid (PF v s30 A30 n30 c30 t30 B30 m30 d30 P26 Q27) → F 3 (Array.setIfInBounds (Array.setIfInBounds (Array.setIfInBounds (Array.setIfInBounds (Array.setIfInBounds (Array.setIfInBounds L0 4 true) 9 true) 10 true) 11 true) 12 true) 13 true) (Act.put (Act.put (Act.put (Act.put (Act.put (Act.put a0 (some 58) (.agg #[.bool s24, .slice A24 n24 c24])) (some 63) (.agg #[.bool s25, .slice A25 n25 c25])) (some 64) (.tuple #[.agg #[.bool s30, .slice A30 n30 c30, .bool t30, .slice B30 m30 d30], .int .i64 C28])) (some 53) (.tuple #[.agg #[.bool s30, .slice A30 n30 c30, .bool t30, .slice B30 m30 d30], .int .i64 C28])) (some 65) (.agg #[.bool s30, .slice A30 n30 c30, .bool t30, .slice B30 m30 d30])) (some 66) (.int .i64 C28)) v := by
       intro s24 A24 n24 c24 s25 A25 n25 c25 s30 A30 n30 c30 t30 B30 m30 d30 v HXj HZ4hr24j HZ9hr25j HZ10hr30j
       subst hF ha0 hL0
       simp only [PT] at J11_4_9_10_14 ⊢
       have hHeld := HS20.out _ HXj.out
       refine wpAnyH_ready (rs := [14]) (by kernel_rfl) (by simp) ?_
       refine .cons rfl (fun K hK => ?_) .nil
       go_simp
       have HB39 := hJ ((Below.refl v.heap.size v).alloc (Nat.le_refl _) (.cells #[.bool false, .slice none 0 0, .bool false, .slice none 0 0] 35))
       have HP39 := hJ (BX.lit v 35 #[.bool false, .slice none 0 0, .bool false, .slice none 0 0])
       obtain ⟨v39, hV⟩ := nmz (World.alloc v (.cells #[.bool false, .slice none 0 0, .bool false, .slice none 0 0] 35))
       obtain ⟨g11_14, hg⟩ := nmz (v.heap.size)
       rw [hV] at HB39 HP39 ⊢
       rw [hg] at HP39 ⊢
       have HG39 := hJ (show wl19.heap.size ≤ g11_14 by rw [← hg]; exact HXj.out.size)
       clear hV hg
       have HX39 := hJ (bt HXj.out HB39.out)
       have HZ39_0 := hJ (PIo.new HZ4hr24j.out HB39.out)
       have HZ39_1 := hJ (PIo.new HZ9hr25j.out HB39.out)
       have HZ39_2 := hJ (PF.new HZ10hr30j.out HB39.out)
       clear hHeld
       refine hK.out _ _ (HS20.out _ HX39.out) (fun hHeld => ?_)
       clear hK K
       try simp only [PT]
       exact wpAnyH_cast (by kernel_rfl) (J11_4_9_10_14 s24 A24 n24 c24 s25 A25 n25 c25 s30 A30 n30 c30 t30 B30 m30 d30 g11_14 v39 HX39 HZ39_0 HZ39_1 HZ39_2 HP39 HG39)
      have J11_4_9_14 : ∀ (s24 : Bool) (A24 : Option Addr) (n24 : Nat) (c24 : Nat) (s25 : Bool) (A25 : Option Addr) (n25 : Nat) (c25 : Nat) (g11_14 : Nat) (v : World), Hid (Below wl19.heap.size wl19 v) → Hid (PI v s24 A24 n24 c24 x22) → Hid (PI v s25 A25 n25 c25 x23) → Hid (BX 35 v g11_14 #[.bool false, .slice none 0 0, .bool false, .slice none 0 0]) → Hid (wl19.heap.size ≤ g11_14) → F 6 (Array.setIfInBounds (Array.setIfInBounds (Array.setIfInBounds L0 4 true) 9 true) 14 true) (Act.put (Act.put (Act.put a0 (some 58) (.agg #[.bool s24, .slice A24 n24 c24])) (some 63) (.agg #[.bool s25, .slice A25 n25 c25])) (some 13) (.pointer (some ⟨g11_14, 0, none⟩))) v := by
       intro s24 A24 n24 c24 s25 A25 n25 c25 g11_14 v HXj HZ4hr24j HZ9hr25j HPg11_14j HGg11_14j
       subst hF ha0 hL0
       simp only [PT] at J11_4_9_10_14 ⊢
       have hHeld := HS20.out _ HXj.out
       refine wpAnyH_ready (rs := [10]) (by kernel_rfl) (by simp) ?_
       refine .cons rfl (fun K hK => ?_) .nil
       go_simp
       go_at_call 22
       refine (fmake_any x22 x23 s24 s25 A24 A25 n24 c24 n25 c25 v HZ4hr24j.out HZ9hr25j.out HLV22.out HLV23.out).mono ?_
       rw [HEP26.out, HEQ27.out, HEC28.out]
       rintro e v40 ⟨s30, A30, n30, c30, t30, B30, m30, d30, rfl, hr30, hb⟩
       have HB40 := hJ hb
       have HR40hr30 := hJ hr30
       clear hb hr30
       go_wp2_with fail
       have HX40 := hJ (bt HXj.out HB40.out)
       have HZ40_0 := hJ (PIo.new HZ4hr24j.out HB40.out)
       have HZ40_1 := hJ (PIo.new HZ9hr25j.out HB40.out)
       have HP40g11_14 := hJ (BX.new HPg11_14j.out HB40.out)
       clear hHeld
       refine hK.out _ _ (HS20.out _ HX40.out) (fun hHeld => ?_)
       clear hK K
       try simp only [PT]
       refine tq 11 ?_
       try simp only [PT]
       refine tq 12 ?_
       try simp only [PT]
       refine tq 13 ?_
       try simp only [PT]
       exact wpAnyH_cast (by kernel_rfl) (J11_4_9_10_14 s24 A24 n24 c24 s25 A25 n25 c25 s30 A30 n30 c30 t30 B30 m30 d30 g11_14 v40 HX40 HZ40_0 HZ40_1 HR40hr30 HP40g11_14 HGg11_14j)
      have J11_4_9 : ∀ (s24 : Bool) (A24 : Option Addr) (n24 : Nat) (c24 : Nat) (s25 : Bool) (A25 : Option Addr) (n25 : Nat) (c25 : Nat) (v : World), Hid (Below wl19.heap.size wl19 v) → Hid (PI v s24 A24 n24 c24 x22) → Hid (PI v s25 A25 n25 c25 x23) → F 7 (Array.setIfInBounds (Array.setIfInBounds L0 4 true) 9 true) (Act.put (Act.put a0 (some 58) (.agg #[.bool s24, .slice A24 n24 c24])) (some 63) (.agg #[.bool s25, .slice A25 n25 c25])) v := by
       intro s24 A24 n24 c24 s25 A25 n25 c25 v HXj HZ4hr24j HZ9hr25j
       subst hF ha0 hL0
       simp only [PT] at J11_4_9_10 J11_4_9_14 ⊢
       have hHeld := HS20.out _ HXj.out
       refine wpAnyH_ready (rs := [10, 14]) (by kernel_rfl) (by simp) ?_
       refine .cons rfl (fun K hK => ?_) ?_
       go_simp
       go_at_call 22
       refine (fmake_any x22 x23 s24 s25 A24 A25 n24 c24 n25 c25 v HZ4hr24j.out HZ9hr25j.out HLV22.out HLV23.out).mono ?_
       rw [HEP26.out, HEQ27.out, HEC28.out]
       rintro e v41 ⟨s30, A30, n30, c30, t30, B30, m30, d30, rfl, hr30, hb⟩
       have HB41 := hJ hb
       have HR41hr30 := hJ hr30
       clear hb hr30
       go_wp2_with fail
       have HX41 := hJ (bt HXj.out HB41.out)
       have HZ41_0 := hJ (PIo.new HZ4hr24j.out HB41.out)
       have HZ41_1 := hJ (PIo.new HZ9hr25j.out HB41.out)
       clear hHeld
       refine hK.out _ _ (HS20.out _ HX41.out) (fun hHeld => ?_)
       clear hK K
       try simp only [PT]
       refine tq 11 ?_
       try simp only [PT]
       refine tq 12 ?_
       try simp only [PT]
       refine tq 13 ?_
       try simp only [PT]
       exact wpAnyH_cast (by kernel_rfl) (J11_4_9_10 s24 A24 n24 c24 s25 A25 n25 c25 s30 A30 n30 c30 t30 B30 m30 d30 v41 HX41 HZ41_0 HZ41_1 HR41hr30)
       refine .cons rfl (fun K hK => ?_) .nil
       go_simp
       have HB42 := hJ ((Below.refl v.heap.size v).alloc (Nat.le_refl _) (.cells #[.bool false, .slice none 0 0, .bool false, .slice none 0 0] 35))
       have HP42 := hJ (BX.lit v 35 #[.bool false, .slice none 0 0, .bool false, .slice none 0 0])
       obtain ⟨v42, hV⟩ := nmz (World.alloc v (.cells #[.bool false, .slice none 0 0, .bool false, .slice none 0 0] 35))
       obtain ⟨g11_14, hg⟩ := nmz (v.heap.size)
       rw [hV] at HB42 HP42 ⊢
       rw [hg] at HP42 ⊢
       have HG42 := hJ (show wl19.heap.size ≤ g11_14 by rw [← hg]; exact HXj.out.size)
       clear hV hg
       have HX42 := hJ (bt HXj.out HB42.out)
       have HZ42_0 := hJ (PIo.new HZ4hr24j.out HB42.out)
       have HZ42_1 := hJ (PIo.new HZ9hr25j.out HB42.out)
       clear hHeld
       refine hK.out _ _ (HS20.out _ HX42.out) (fun hHeld => ?_)
       clear hK K
       try simp only [PT]
       exact wpAnyH_cast (by kernel_rfl) (J11_4_9_14 s24 A24 n24 c24 s25 A25 n25 c25 g11_14 v42 HX42 HZ42_0 HZ42_1 HP42 HG42)
      have J11_4_14 : ∀ (s24 : Bool) (A24 : Option Addr) (n24 : Nat) (c24 : Nat) (g11_14 : Nat) (v : World), Hid (Below wl19.heap.size wl19 v) → Hid (PI v s24 A24 n24 c24 x22) → Hid (BX 35 v g11_14 #[.bool false, .slice none 0 0, .bool false, .slice none 0 0]) → Hid (wl19.heap.size ≤ g11_14) → F 7 (Array.setIfInBounds (Array.setIfInBounds L0 4 true) 14 true) (Act.put (Act.put a0 (some 58) (.agg #[.bool s24, .slice A24 n24 c24])) (some 13) (.pointer (some ⟨g11_14, 0, none⟩))) v := by
       intro s24 A24 n24 c24 g11_14 v HXj HZ4hr24j HPg11_14j HGg11_14j
       subst hF ha0 hL0
       simp only [PT] at J11_4_9_14 ⊢
       have hHeld := HS20.out _ HXj.out
       refine wpAnyH_ready (rs := [9]) (by kernel_rfl) (by simp) ?_
       refine .cons rfl (fun K hK => ?_) .nil
       go_simp
       go_at_call 23
       refine (l4num_any x23 s23 A23 n23 c23 v (RNo.new HRP23.out HXj.out) (Nat.le_trans (rlim (RNo.new HRP23.out HXj.out) HLV23.out) (by decide)) HLV23.out).mono ?_
       rintro e v43 ⟨s25, A25, n25, c25, rfl, hr25, hb⟩
       have HB43 := hJ hb
       have HR43hr25 := hJ hr25
       clear hb hr25
       go_wp2_with fail
       have HX43 := hJ (bt HXj.out HB43.out)
       have HZ43_0 := hJ (PIo.new HZ4hr24j.out HB43.out)
       have HP43g11_14 := hJ (BX.new HPg11_14j.out HB43.out)
       clear hHeld
       refine hK.out _ _ (HS20.out _ HX43.out) (fun hHeld => ?_)
       clear hK K
       try simp only [PT]
       exact wpAnyH_cast (by kernel_rfl) (J11_4_9_14 s24 A24 n24 c24 s25 A25 n25 c25 g11_14 v43 HX43 HZ43_0 HR43hr25 HP43g11_14 HGg11_14j)
      have J11_4 : ∀ (s24 : Bool) (A24 : Option Addr) (n24 : Nat) (c24 : Nat) (v : World), Hid (Below wl19.heap.size wl19 v) → Hid (PI v s24 A24 n24 c24 x22) → F 8 (Array.setIfInBounds L0 4 true) (Act.put a0 (some 58) (.agg #[.bool s24, .slice A24 n24 c24])) v := by
       intro s24 A24 n24 c24 v HXj HZ4hr24j
       subst hF ha0 hL0
       simp only [PT] at J11_4_9 J11_4_14 ⊢
       have hHeld := HS20.out _ HXj.out
       refine wpAnyH_ready (rs := [9, 14]) (by kernel_rfl) (by simp) ?_
       refine .cons rfl (fun K hK => ?_) ?_
       go_simp
       go_at_call 23
       refine (l4num_any x23 s23 A23 n23 c23 v (RNo.new HRP23.out HXj.out) (Nat.le_trans (rlim (RNo.new HRP23.out HXj.out) HLV23.out) (by decide)) HLV23.out).mono ?_
       rintro e v44 ⟨s25, A25, n25, c25, rfl, hr25, hb⟩
       have HB44 := hJ hb
       have HR44hr25 := hJ hr25
       clear hb hr25
       go_wp2_with fail
       have HX44 := hJ (bt HXj.out HB44.out)
       have HZ44_0 := hJ (PIo.new HZ4hr24j.out HB44.out)
       clear hHeld
       refine hK.out _ _ (HS20.out _ HX44.out) (fun hHeld => ?_)
       clear hK K
       try simp only [PT]
       exact wpAnyH_cast (by kernel_rfl) (J11_4_9 s24 A24 n24 c24 s25 A25 n25 c25 v44 HX44 HZ44_0 HR44hr25)
       refine .cons rfl (fun K hK => ?_) .nil
       go_simp
       have HB45 := hJ ((Below.refl v.heap.size v).alloc (Nat.le_refl _) (.cells #[.bool false, .slice none 0 0, .bool false, .slice none 0 0] 35))
       have HP45 := hJ (BX.lit v 35 #[.bool false, .slice none 0 0, .bool false, .slice none 0 0])
       obtain ⟨v45, hV⟩ := nmz (World.alloc v (.cells #[.bool false, .slice none 0 0, .bool false, .slice none 0 0] 35))
       obtain ⟨g11_14, hg⟩ := nmz (v.heap.size)
       rw [hV] at HB45 HP45 ⊢
       rw [hg] at HP45 ⊢
       have HG45 := hJ (show wl19.heap.size ≤ g11_14 by rw [← hg]; exact HXj.out.size)
       clear hV hg
       have HX45 := hJ (bt HXj.out HB45.out)
       have HZ45_0 := hJ (PIo.new HZ4hr24j.out HB45.out)
       clear hHeld
       refine hK.out _ _ (HS20.out _ HX45.out) (fun hHeld => ?_)
       clear hK K
       try simp only [PT]
       exact wpAnyH_cast (by kernel_rfl) (J11_4_14 s24 A24 n24 c24 g11_14 v45 HX45 HZ45_0 HP45 HG45)
      have J11_14 : ∀ (g11_14 : Nat) (v : World), Hid (Below wl19.heap.size wl19 v) → Hid (BX 35 v g11_14 #[.bool false, .slice none 0 0, .bool false, .slice none 0 0]) → Hid (wl19.heap.size ≤ g11_14) → F 8 (Array.setIfInBounds L0 14 true) (Act.put a0 (some 13) (.pointer (some ⟨g11_14, 0, none⟩))) v := by
       intro g11_14 v HXj HPg11_14j HGg11_14j
       subst hF ha0 hL0
       simp only [PT] at J11_4_14 ⊢
       have hHeld := HS20.out _ HXj.out
       refine wpAnyH_ready (rs := [4]) (by kernel_rfl) (by simp) ?_
       refine .cons rfl (fun K hK => ?_) .nil
       go_simp
       go_at_call 23
       refine (l4num_any x22 s22 A22 n22 c22 v (RNo.new HRP22w8.out HXj.out) (Nat.le_trans (rlim (RNo.new HRP22w8.out HXj.out) HLV22.out) (by decide)) HLV22.out).mono ?_
       rintro e v46 ⟨s24, A24, n24, c24, rfl, hr24, hb⟩
       have HB46 := hJ hb
       have HR46hr24 := hJ hr24
       clear hb hr24
       go_wp2_with fail
       have HX46 := hJ (bt HXj.out HB46.out)
       have HP46g11_14 := hJ (BX.new HPg11_14j.out HB46.out)
       clear hHeld
       refine hK.out _ _ (HS20.out _ HX46.out) (fun hHeld => ?_)
       clear hK K
       try simp only [PT]
       exact wpAnyH_cast (by kernel_rfl) (J11_4_14 s24 A24 n24 c24 g11_14 v46 HX46 HR46hr24 HP46g11_14 HGg11_14j)
      subst hF ha0 hL0
      simp only [PT] at J11_4 J11_14
      refine wpAnyH_ready (rs := [4, 14]) (by kernel_rfl) (by simp) ?_
      refine .cons rfl (fun K hK => ?_) ?_
      go_simp
      go_at_call 23
      refine (l4num_any x22 s22 A22 n22 c22 v20 (RNo.new HRP22w8.out HX20.out) (Nat.le_trans (rlim (RNo.new HRP22w8.out HX20.out) HLV22.out) (by decide)) HLV22.out).mono ?_
      rintro e v47 ⟨s24, A24, n24, c24, rfl, hr24, hb⟩
      have HB47 := hJ hb
      have HR47hr24 := hJ hr24
      clear hb hr24
      go_wp2_with fail
      have HX47 := hJ (bt HX20.out HB47.out)
      clear hHeld
      refine hK.out _ _ (HS20.out _ HX47.out) (fun hHeld => ?_)
      clear hK K
      try simp only [PT]
      exact wpAnyH_cast (by kernel_rfl) (J11_4 s24 A24 n24 c24 v47 HX47 HR47hr24)
      refine .cons rfl (fun K hK => ?_) .nil
      go_simp
      have HB48 := hJ ((Below.refl v20.heap.size v20).alloc (Nat.le_refl _) (.cells #[.bool false, .slice none 0 0, .bool false, .slice none 0 0] 35))
      have HP48 := hJ (BX.lit v20 35 #[.bool false, .slice none 0 0, .bool false, .slice none 0 0])
      obtain ⟨v48, hV⟩ := nmz (World.alloc v20 (.cells #[.bool false, .slice none 0 0, .bool false, .slice none 0 0] 35))
      obtain ⟨g11_14, hg⟩ := nmz (v20.heap.size)
      rw [hV] at HB48 HP48 ⊢
      rw [hg] at HP48 ⊢
      have HG48 := hJ (show wl19.heap.size ≤ g11_14 by rw [← hg]; exact HX20.out.size)
      clear hV hg
      have HX48 := hJ (bt HX20.out HB48.out)
      clear hHeld
      refine hK.out _ _ (HS20.out _ HX48.out) (fun hHeld => ?_)
      clear hK K
      try simp only [PT]
      exact wpAnyH_cast (by kernel_rfl) (J11_14 g11_14 v48 HX48 HP48 HG48)
     ·(try rw [show ((3 : Nat) : Int) = 3 from rfl])
      have HC6_8 := hJ (bt HB18.out HB19.out)
      go_wp2_with fail
      go_roundw
      case rel => exact ⟨i18 + 1, by omega, by go_num, HC6_8.out⟩
      case measure => simp [intOf] <;> omega
   ·(try rw [show ((6 : Nat) : Int) = 6 from rfl])
    obtain ⟨P32, hP32⟩ := nmz (mkP n d)
    have HEP32 := hJ hP32
    clear hP32
    obtain ⟨Q33, hQ33⟩ := nmz (mkQ n d)
    have HEQ33 := hJ hQ33
    clear hQ33
    obtain ⟨C34, hC34⟩ := nmz (mkC d)
    have HEC34 := hJ hC34
    clear hC34
    have HF35 := hJ (show Fr P32 Q33 by rw [← HEP32.out, ← HEQ33.out]; exact fr_mk (i64_lim (x := n) HWN.out) (i64_lim (x := d) HWD.out))
    go_wp2_with fail
    refine (fof_any n d wl18 HWN.out HWD.out).mono ?_
    rw [HEP32.out, HEQ33.out, HEC34.out]
    rintro e w49 ⟨s36, A36, n36, c36, t36, B36, m36, d36, rfl, hr36, hb⟩
    have HB49 := hJ hb
    have HR49hr36 := hJ hr36
    clear hb hr36
    obtain ⟨x50, hx50⟩ := nmz (w49.alloc (.cells #[.bool s36, .slice A36 n36 c36, .bool t36, .slice B36 m36 d36] 35))
    have HB50 := hJ (show Below w49.heap.size w49 x50 by rw [← hx50]; exact ((Below.refl _ _).alloc (Nat.le_refl _) _))
    have HQ50x0 := hJ (show BX 35 x50 w49.heap.size #[.bool s36, .slice A36 n36 c36, .bool t36, .slice B36 m36 d36] by rw [← hx50]; exact (BX.at rfl))
    have HG50x0 := hJ (show w49.heap.size ≤ w49.heap.size by omega)
    have HL50x0 := hJ (show w49.heap.size < x50.heap.size from HQ50x0.out.lt)
    go_wp2_with fail
    clear hx50
    refine (of_any n x50 HWN.out).mono ?_
    rintro e w51 ⟨s37, A37, n37, c37, rfl, hr37, hb⟩
    have HB51 := hJ hb
    have HR51hr37 := hJ hr37
    clear hb hr37
    go_wp2_with fail
    refine (of_any d w51 HWD.out).mono ?_
    rintro e w52 ⟨s38, A38, n38, c38, rfl, hr38, hb⟩
    have HB52 := hJ hb
    have HR52hr38 := hJ hr38
    clear hb hr38
    have HR51hr37w11 := hJ (RNo.new HR51hr37.out HB52.out)
    go_wp2_with fail
    refine (r4make_any n d (32 * limE) s37 A37 n37 c37 s38 A38 n38 c38 w52 HR51hr37w11.out HR52hr38.out (by decide) (lim_b2 (i64_lim (x := n) HWN.out)) (lim_b2 (i64_lim (x := d) HWD.out))).mono ?_
    rw [HEP32.out, HEQ33.out, HEC34.out]
    rintro e w53 ⟨s39, A39, n39, c39, t39, B39, m39, d39, rfl, hr39, hs39, hb⟩
    have HB53 := hJ hb
    have HR53hr39 := hJ hr39
    have HR53hs39 := hJ hs39
    clear hb hr39 hs39
    obtain ⟨x54, hx54⟩ := nmz (w53.alloc (.cells #[.bool s39, .slice A39 n39 c39, .bool t39, .slice B39 m39 d39] 41))
    have HB54 := hJ (show Below w53.heap.size w53 x54 by rw [← hx54]; exact ((Below.refl _ _).alloc (Nat.le_refl _) _))
    have HQ54x0 := hJ (show BX 41 x54 w53.heap.size #[.bool s39, .slice A39 n39 c39, .bool t39, .slice B39 m39 d39] by rw [← hx54]; exact (BX.at rfl))
    have HG54x0 := hJ (show w53.heap.size ≤ w53.heap.size by omega)
    have HL54x0 := hJ (show w53.heap.size < x54.heap.size from HQ54x0.out.lt)
    have HC9_13 := hJ (bt (bt (bt HB51.out HB52.out) HB53.out) HB54.out)
    have HQ50x0w13 := hJ (BX.new HQ50x0.out HC9_13.out)
    obtain ⟨cl55, cl56, cl57, cl58⟩ := HQ50x0w13.out.c4 0 1 2 3 rfl rfl rfl rfl
    obtain ⟨cl59, cl60, cl61, cl62⟩ := HQ54x0.out.c4 0 1 2 3 rfl rfl rfl rfl
    have HC8_13 := hJ (bt (bt (bt (bt HB50.out HB51.out) HB52.out) HB53.out) HB54.out)
    have HR49hr36w13 := hJ (PF.new HR49hr36.out HC8_13.out)
    have HR53hr39w13 := hJ (RNo.new HR53hr39.out HB54.out)
    have HR53hs39w13 := hJ (RNo.new HR53hs39.out HB54.out)
    go_wp2_with fail
    clear hx54 cl55 cl56 cl57 cl58 cl59 cl60 cl61 cl62
    refine (l4same_any P32 Q33 P32 Q33 s36 t36 s39 t39 A36 B36 A39 B39 n36 c36 m36 d36 n39 c39 m39 d39 x54 HR49hr36w13.out HR53hr39w13.out HR53hs39w13.out HF35.out HF35.out.2.1 HF35.out.2.2).mono ?_
    rw [eqF_self]
    rintro e w63 ⟨rfl, hb⟩
    have HB63 := hJ hb
    clear hb
    go_wp2_with fail
    refine (l4whole_any n w63 HWN.out).mono ?_
    rintro e w64 ⟨s40, A40, n40, c40, t40, B40, m40, d40, rfl, hr40, hb⟩
    have HB64 := hJ hb
    have HR64hr40 := hJ hr40
    clear hb hr40
    go_wp2_with fail
    refine (r4of_any n w64 HWN.out).mono ?_
    rintro e w65 ⟨s41, A41, n41, c41, t41, B41, m41, d41, rfl, hr41, hs41, hb⟩
    have HB65 := hJ hb
    have HR65hr41 := hJ hr41
    have HR65hs41 := hJ hs41
    clear hb hr41 hs41
    have HR64hr40w16 := hJ (PF.new HR64hr40.out HB65.out)
    go_wp2_with fail
    refine (l4same_any n 1 n 1 s40 t40 s41 t41 A40 B40 A41 B41 n40 c40 m40 d40 n41 c41 m41 d41 w65 HR64hr40w16.out HR65hr41.out HR65hs41.out (fr_int (x := n) HWN.out) (i64_lim (x := n) HWN.out) one_lim).mono ?_
    rw [eqF_self]
    rintro e w66 ⟨rfl, hb⟩
    have HB66 := hJ hb
    clear hb
    go_wp2_with fail
    refine (l4lives_any w66).mono ?_
    rintro e w67 ⟨rfl, hb⟩
    have HB67 := hJ hb
    clear hb
    have HC0_18 := hJ (bt (bt (bt (bt (bt (bt (bt (bt (bt (bt (bt (bt (bt (bt (bt (bt HC0_2.out HB7.out) HB8.out) HX10.out) HX16.out) HB18.out) HB49.out) HB50.out) HB51.out) HB52.out) HB53.out) HB54.out) HB63.out) HB64.out) HB65.out) HB66.out) HB67.out)
    go_wp2
    go_ret
    exact ⟨rfl, HC0_18.out⟩
 have J3_1_2 : ∀ (x17 : Int) (s17 : Bool) (A17 : Option Addr) (n17 : Nat) (c17 : Nat) (s18 : Bool) (A18 : Option Addr) (n18 : Nat) (c18 : Nat) (v : World), Hid (Below x8.heap.size x8 v) → Hid (RN v s17 A17 n17 c17 x17) → Hid (x17 = ((B2 9000 : Nat) : Int)) → Hid (RN v s18 A18 n18 c18 (x13 * x17)) → F 2 (Array.setIfInBounds (Array.setIfInBounds L0 1 true) 2 true) (Act.put (Act.put a0 (some 32) (.agg #[.bool s17, .slice A17 n17 c17])) (some 33) (.agg #[.bool s18, .slice A18 n18 c18])) v := by
  intro x17 s17 A17 n17 c17 s18 A18 n18 c18 v HXj HZ1hr17j HNM17 HZ2hr18j
  subst hF ha0 hL0
  simp only [PT] at J3_1_2_3 ⊢
  have hHeld := HS9.out _ HXj.out
  refine wpAnyH_ready (rs := [3]) (by kernel_rfl) (by simp) ?_
  refine .cons rfl (fun K hK => ?_) .nil
  go_simp
  have HB68 := hJ ((Below.refl v.heap.size v).alloc (Nat.le_refl _) (.cells #[.bool false, .slice none 0 0] 24))
  have HP68 := hJ (BX.lit v 24 #[.bool false, .slice none 0 0])
  obtain ⟨v68, hV⟩ := nmz (World.alloc v (.cells #[.bool false, .slice none 0 0] 24))
  obtain ⟨g3_3, hg⟩ := nmz (v.heap.size)
  rw [hV] at HB68 HP68 ⊢
  rw [hg] at HP68 ⊢
  have HG68 := hJ (show x8.heap.size ≤ g3_3 by rw [← hg]; exact HXj.out.size)
  clear hV hg
  have HX68 := hJ (bt HXj.out HB68.out)
  have HZ68_0 := hJ (RNo.new HZ1hr17j.out HB68.out)
  have HZ68_1 := hJ (RNo.new HZ2hr18j.out HB68.out)
  clear hHeld
  refine hK.out _ _ (HS9.out _ HX68.out) (fun hHeld => ?_)
  clear hK K
  try simp only [PT]
  exact wpAnyH_cast (by kernel_rfl) (J3_1_2_3 x17 s17 A17 n17 c17 s18 A18 n18 c18 g3_3 v68 HX68 HZ68_0 HNM17 HZ68_1 HP68 HG68)
 have J3_1_3 : ∀ (x17 : Int) (s17 : Bool) (A17 : Option Addr) (n17 : Nat) (c17 : Nat) (g3_3 : Nat) (v : World), Hid (Below x8.heap.size x8 v) → Hid (RN v s17 A17 n17 c17 x17) → Hid (x17 = ((B2 9000 : Nat) : Int)) → Hid (BX 24 v g3_3 #[.bool false, .slice none 0 0]) → Hid (x8.heap.size ≤ g3_3) → F 2 (Array.setIfInBounds (Array.setIfInBounds L0 1 true) 3 true) (Act.put (Act.put a0 (some 32) (.agg #[.bool s17, .slice A17 n17 c17])) (some 9) (.pointer (some ⟨g3_3, 0, none⟩))) v := by
  intro x17 s17 A17 n17 c17 g3_3 v HXj HZ1hr17j HNM17 HPg3_3j HGg3_3j
  subst hF ha0 hL0
  simp only [PT] at J3_1_2_3 ⊢
  have hHeld := HS9.out _ HXj.out
  refine wpAnyH_ready (rs := [2]) (by kernel_rfl) (by simp) ?_
  refine .cons rfl (fun K hK => ?_) .nil
  go_simp
  go_at_call 18
  refine (mul_any x13 x17 s13 s17 A13 A17 n13 c13 n17 c17 v (RNo.new HR3hr13w4.out HXj.out) HZ1hr17j.out (Nat.le_trans (rlim (RNo.new HR3hr13w4.out HXj.out) (num_lim2 HNM13.out)) (by decide)) (Nat.le_trans (B2.rlen HZ1hr17j.out (b2_pow HNM17.out)) (by decide))).mono ?_
  rintro e v69 ⟨s18, A18, n18, c18, rfl, hr18, hb⟩
  have HB69 := hJ hb
  have HR69hr18 := hJ hr18
  clear hb hr18
  go_wp2_with fail
  have HX69 := hJ (bt HXj.out HB69.out)
  have HZ69_0 := hJ (RNo.new HZ1hr17j.out HB69.out)
  have HP69g3_3 := hJ (BX.new HPg3_3j.out HB69.out)
  clear hHeld
  refine hK.out _ _ (HS9.out _ HX69.out) (fun hHeld => ?_)
  clear hK K
  try simp only [PT]
  exact wpAnyH_cast (by kernel_rfl) (J3_1_2_3 x17 s17 A17 n17 c17 s18 A18 n18 c18 g3_3 v69 HX69 HZ69_0 HNM17 HR69hr18 HP69g3_3 HGg3_3j)
 have J3_1 : ∀ (x17 : Int) (s17 : Bool) (A17 : Option Addr) (n17 : Nat) (c17 : Nat) (v : World), Hid (Below x8.heap.size x8 v) → Hid (RN v s17 A17 n17 c17 x17) → Hid (x17 = ((B2 9000 : Nat) : Int)) → F 3 (Array.setIfInBounds L0 1 true) (Act.put a0 (some 32) (.agg #[.bool s17, .slice A17 n17 c17])) v := by
  intro x17 s17 A17 n17 c17 v HXj HZ1hr17j HNM17
  subst hF ha0 hL0
  simp only [PT] at J3_1_2 J3_1_3 ⊢
  have hHeld := HS9.out _ HXj.out
  refine wpAnyH_ready (rs := [2, 3]) (by kernel_rfl) (by simp) ?_
  refine .cons rfl (fun K hK => ?_) ?_
  go_simp
  go_at_call 18
  refine (mul_any x13 x17 s13 s17 A13 A17 n13 c13 n17 c17 v (RNo.new HR3hr13w4.out HXj.out) HZ1hr17j.out (Nat.le_trans (rlim (RNo.new HR3hr13w4.out HXj.out) (num_lim2 HNM13.out)) (by decide)) (Nat.le_trans (B2.rlen HZ1hr17j.out (b2_pow HNM17.out)) (by decide))).mono ?_
  rintro e v70 ⟨s18, A18, n18, c18, rfl, hr18, hb⟩
  have HB70 := hJ hb
  have HR70hr18 := hJ hr18
  clear hb hr18
  go_wp2_with fail
  have HX70 := hJ (bt HXj.out HB70.out)
  have HZ70_0 := hJ (RNo.new HZ1hr17j.out HB70.out)
  clear hHeld
  refine hK.out _ _ (HS9.out _ HX70.out) (fun hHeld => ?_)
  clear hK K
  try simp only [PT]
  exact wpAnyH_cast (by kernel_rfl) (J3_1_2 x17 s17 A17 n17 c17 s18 A18 n18 c18 v70 HX70 HZ70_0 HNM17 HR70hr18)
  refine .cons rfl (fun K hK => ?_) .nil
  go_simp
  have HB71 := hJ ((Below.refl v.heap.size v).alloc (Nat.le_refl _) (.cells #[.bool false, .slice none 0 0] 24))
  have HP71 := hJ (BX.lit v 24 #[.bool false, .slice none 0 0])
  obtain ⟨v71, hV⟩ := nmz (World.alloc v (.cells #[.bool false, .slice none 0 0] 24))
  obtain ⟨g3_3, hg⟩ := nmz (v.heap.size)
  rw [hV] at HB71 HP71 ⊢
  rw [hg] at HP71 ⊢
  have HG71 := hJ (show x8.heap.size ≤ g3_3 by rw [← hg]; exact HXj.out.size)
  clear hV hg
  have HX71 := hJ (bt HXj.out HB71.out)
  have HZ71_0 := hJ (RNo.new HZ1hr17j.out HB71.out)
  clear hHeld
  refine hK.out _ _ (HS9.out _ HX71.out) (fun hHeld => ?_)
  clear hK K
  try simp only [PT]
  exact wpAnyH_cast (by kernel_rfl) (J3_1_3 x17 s17 A17 n17 c17 g3_3 v71 HX71 HZ71_0 HNM17 HP71 HG71)
 have J3_3 : ∀ (g3_3 : Nat) (v : World), Hid (Below x8.heap.size x8 v) → Hid (BX 24 v g3_3 #[.bool false, .slice none 0 0]) → Hid (x8.heap.size ≤ g3_3) → F 3 (Array.setIfInBounds L0 3 true) (Act.put a0 (some 9) (.pointer (some ⟨g3_3, 0, none⟩))) v := by
  intro g3_3 v HXj HPg3_3j HGg3_3j
  subst hF ha0 hL0
  simp only [PT] at J3_1_3 ⊢
  have hHeld := HS9.out _ HXj.out
  refine wpAnyH_ready (rs := [1]) (by kernel_rfl) (by simp) ?_
  refine .cons rfl (fun K hK => ?_) .nil
  go_simp
  go_at_call 19
  refine (power_v 9000 9000 v rfl (by decide)).mono ?_
  rintro e v72 ⟨x17, s17, A17, n17, c17, rfl, hr17, hx17, hb⟩
  have HB72 := hJ hb
  have HR72hr17 := hJ hr17
  clear hb hr17
  have HNM17 := hJ hx17
  clear hx17
  go_wp2_with fail
  have HX72 := hJ (bt HXj.out HB72.out)
  have HP72g3_3 := hJ (BX.new HPg3_3j.out HB72.out)
  clear hHeld
  refine hK.out _ _ (HS9.out _ HX72.out) (fun hHeld => ?_)
  clear hK K
  try simp only [PT]
  exact wpAnyH_cast (by kernel_rfl) (J3_1_3 x17 s17 A17 n17 c17 g3_3 v72 HX72 HR72hr17 HNM17 HP72g3_3 HGg3_3j)
 subst hF ha0 hL0
 simp only [PT] at J3_1 J3_3
 refine wpAnyH_ready (rs := [1, 3]) (by kernel_rfl) (by simp) ?_
 refine .cons rfl (fun K hK => ?_) ?_
 go_simp
 go_at_call 19
 refine (power_v 9000 9000 v9 rfl (by decide)).mono ?_
 rintro e v73 ⟨x17, s17, A17, n17, c17, rfl, hr17, hx17, hb⟩
 have HB73 := hJ hb
 have HR73hr17 := hJ hr17
 clear hb hr17
 have HNM17 := hJ hx17
 clear hx17
 go_wp2_with fail
 have HX73 := hJ (bt HX9.out HB73.out)
 clear hHeld
 refine hK.out _ _ (HS9.out _ HX73.out) (fun hHeld => ?_)
 clear hK K
 try simp only [PT]
 exact wpAnyH_cast (by kernel_rfl) (J3_1 x17 s17 A17 n17 c17 v73 HX73 HR73hr17 HNM17)
 refine .cons rfl (fun K hK => ?_) .nil
 go_simp
 have HB74 := hJ ((Below.refl v9.heap.size v9).alloc (Nat.le_refl _) (.cells #[.bool false, .slice none 0 0] 24))
 have HP74 := hJ (BX.lit v9 24 #[.bool false, .slice none 0 0])
 obtain ⟨v74, hV⟩ := nmz (World.alloc v9 (.cells #[.bool false, .slice none 0 0] 24))
 obtain ⟨g3_3, hg⟩ := nmz (v9.heap.size)
 rw [hV] at HB74 HP74 ⊢
 rw [hg] at HP74 ⊢
 have HG74 := hJ (show x8.heap.size ≤ g3_3 by rw [← hg]; exact HX9.out.size)
 clear hV hg
 have HX74 := hJ (bt HX9.out HB74.out)
 clear hHeld
 refine hK.out _ _ (HS9.out _ HX74.out) (fun hHeld => ?_)
 clear hK K
 try simp only [PT]
 exact wpAnyH_cast (by kernel_rfl) (J3_3 g3_3 v74 HX74 HP74 HG74)
theorem fracMakes_law (a0 a1 : Int) (a2 : Option Addr) (len2 cap2 : Nat) (z2 : List Int) (w : World) (w0 : (Lit.int .i64 a0).wf = true) (w1 : (Lit.int .i64 a1).wf = true) (w2 : RowI .i64 w a2 len2 cap2 z2) :
  Calls Tryz.prog 3 #[.int .i64 a0, .int .i64 a1, .slice a2 len2 cap2] w fun e w' => e = .returned (.bool true) ∧ Below w.heap.size w w' := by
 obtain ⟨ls, h1, h2, h3, h4⟩ := w2.open_
 exact fracMakes_walk a0 a1 a2 len2 cap2 ls w w0 w1 ⟨h4, by rw [h1]; exact h2, h3⟩
end Go.Proofs.YtbhnaffbgggabaaGreat
