/- The walk of the law FracOrder. -/
import Derived.Test.YtbhnaffbgggabaaGreatVJ
import Derived.Laws.BytesArg
import Derived.Deep.DeepCutAuto
namespace Go.Proofs.YtbhnaffbgggabaaGreat
open Go.RowKit
attribute [local go_sem ↓] Go.wp_at_zero Go.wp_at_succ
set_option linter.unusedVariables false
set_option linter.unusedSimpArgs false
set_option maxRecDepth 100000 in
set_option maxHeartbeats 12800000 in
theorem fracOrder_walk (A : Option Addr) (ln c : Nat) (xs : List Int) (w : World) (hg : Got w (.slice A ln c) xs) :
  Calls Tryz.prog 6 #[.slice A ln c] w fun e w' => e = .returned (.bool true) ∧ Below w.heap.size w w' := by
 have HG := hJ hg
 clear hg
 go_enter Tryz.func6, Tryz.ntmps6
 go_wp2_with fail
 refine (r4frac_any A ln c xs 0 w HG.out (by decide) (by decide)).mono ?_
 rintro e w1 ⟨p11, q11, s11, A11, n11, c11, t11, B11, m11, d11, rfl, hr11, hs11, hf11, hb⟩
 have HB1 := hJ hb
 have HR1hr11 := hJ hr11
 have HR1hs11 := hJ hs11
 clear hb hr11 hs11
 have HFR11 := hJ hf11
 clear hf11
 have HGw1 := hJ (Got.new HG.out HB1.out)
 go_wp2_with fail
 refine (r4frac_any A ln c xs 4 w1 HGw1.out (by decide) (by decide)).mono ?_
 rintro e w2 ⟨p12, q12, s12, A12, n12, c12, t12, B12, m12, d12, rfl, hr12, hs12, hf12, hb⟩
 have HB2 := hJ hb
 have HR2hr12 := hJ hr12
 have HR2hs12 := hJ hs12
 clear hb hr12 hs12
 have HFR12 := hJ hf12
 clear hf12
 have HGw2 := hJ (Got.new HGw1.out HB2.out)
 go_wp2_with fail
 refine (r4frac_any A ln c xs 8 w2 HGw2.out (by decide) (by decide)).mono ?_
 rintro e w3 ⟨p13, q13, s13, A13, n13, c13, t13, B13, m13, d13, rfl, hr13, hs13, hf13, hb⟩
 have HB3 := hJ hb
 have HR3hr13 := hJ hr13
 have HR3hs13 := hJ hs13
 clear hb hr13 hs13
 have HFR13 := hJ hf13
 clear hf13
 obtain ⟨x4, hx4⟩ := nmz (w3.alloc (.cells #[.bool s11, .slice A11 n11 c11, .bool t11, .slice B11 m11 d11, .bool s12, .slice A12 n12 c12, .bool t12, .slice B12 m12 d12, .bool s13, .slice A13 n13 c13, .bool t13, .slice B13 m13 d13] 41))
 have HB4 := hJ (show Below w3.heap.size w3 x4 by rw [← hx4]; exact ((Below.refl _ _).alloc (Nat.le_refl _) _))
 have HQ4x0 := hJ (show BX 41 x4 w3.heap.size #[.bool s11, .slice A11 n11 c11, .bool t11, .slice B11 m11 d11, .bool s12, .slice A12 n12 c12, .bool t12, .slice B12 m12 d12, .bool s13, .slice A13 n13 c13, .bool t13, .slice B13 m13 d13] by rw [← hx4]; exact (BX.at rfl))
 have HG4x0 := hJ (show w3.heap.size ≤ w3.heap.size by omega)
 have HL4x0 := hJ (show w3.heap.size < x4.heap.size from HQ4x0.out.lt)
 go_wp2_with fail
 clear hx4
 obtain ⟨i35, hi35, hz35, hs35, hy35⟩ := info_parts (show (Tryz.prog.info? 35).map (fun i => (i.zero, i.size, i.bytes)) = some (some (.agg #[.bool false, .slice none 0 0, .bool false, .slice none 0 0]), 4, 64) by kernel_rfl)
 have HT35 := hJ (And.intro hi35 (And.intro hz35 (And.intro hs35 hy35)))
 clear hi35 hz35 hs35 hy35
 go_loopw [5, 4] (fun tv tx wr => ∃ i : Nat, tv = .int .i64 (i : Int) ∧ Below x4.heap.size x4 wr ∧ ((i = 0 ∧ tx = .slice none 0 0) ∨ (i = 1 ∧ ∃ (gx cpx : Nat) (sx0 : Bool) (Ax0 : Option Addr) (nx0 cx0 : Nat) (tx0 : Bool) (Bx0 : Option Addr) (mx0 dx0 : Nat), tx = .slice (some ⟨gx, 0, none⟩) 1 cpx ∧ Hid (OwnR noD wr x4.heap.size 35 4 (.slice (some ⟨gx, 0, none⟩) 1 cpx) 1 [.bool sx0, .slice Ax0 nx0 cx0, .bool tx0, .slice Bx0 mx0 dx0]) ∧ Hid (x4.heap.size ≤ gx) ∧ Hid (gx < wr.heap.size) ∧ Hid (PF wr sx0 Ax0 nx0 cx0 tx0 Bx0 mx0 dx0 p11 q11)) ∨ (i = 2 ∧ ∃ (gx cpx : Nat) (sx0 : Bool) (Ax0 : Option Addr) (nx0 cx0 : Nat) (tx0 : Bool) (Bx0 : Option Addr) (mx0 dx0 : Nat) (sx1 : Bool) (Ax1 : Option Addr) (nx1 cx1 : Nat) (tx1 : Bool) (Bx1 : Option Addr) (mx1 dx1 : Nat), tx = .slice (some ⟨gx, 0, none⟩) 2 cpx ∧ Hid (OwnR noD wr x4.heap.size 35 4 (.slice (some ⟨gx, 0, none⟩) 2 cpx) 2 [.bool sx0, .slice Ax0 nx0 cx0, .bool tx0, .slice Bx0 mx0 dx0, .bool sx1, .slice Ax1 nx1 cx1, .bool tx1, .slice Bx1 mx1 dx1]) ∧ Hid (x4.heap.size ≤ gx) ∧ Hid (gx < wr.heap.size) ∧ Hid (PF wr sx0 Ax0 nx0 cx0 tx0 Bx0 mx0 dx0 p11 q11) ∧ Hid (PF wr sx1 Ax1 nx1 cx1 tx1 Bx1 mx1 dx1 p12 q12)) ∨ (i = 3 ∧ ∃ (gx cpx : Nat) (sx0 : Bool) (Ax0 : Option Addr) (nx0 cx0 : Nat) (tx0 : Bool) (Bx0 : Option Addr) (mx0 dx0 : Nat) (sx1 : Bool) (Ax1 : Option Addr) (nx1 cx1 : Nat) (tx1 : Bool) (Bx1 : Option Addr) (mx1 dx1 : Nat) (sx2 : Bool) (Ax2 : Option Addr) (nx2 cx2 : Nat) (tx2 : Bool) (Bx2 : Option Addr) (mx2 dx2 : Nat), tx = .slice (some ⟨gx, 0, none⟩) 3 cpx ∧ Hid (OwnR noD wr x4.heap.size 35 4 (.slice (some ⟨gx, 0, none⟩) 3 cpx) 3 [.bool sx0, .slice Ax0 nx0 cx0, .bool tx0, .slice Bx0 mx0 dx0, .bool sx1, .slice Ax1 nx1 cx1, .bool tx1, .slice Bx1 mx1 dx1, .bool sx2, .slice Ax2 nx2 cx2, .bool tx2, .slice Bx2 mx2 dx2]) ∧ Hid (x4.heap.size ≤ gx) ∧ Hid (gx < wr.heap.size) ∧ Hid (PF wr sx0 Ax0 nx0 cx0 tx0 Bx0 mx0 dx0 p11 q11) ∧ Hid (PF wr sx1 Ax1 nx1 cx1 tx1 Bx1 mx1 dx1 p12 q12) ∧ Hid (PF wr sx2 Ax2 nx2 cx2 tx2 Bx2 mx2 dx2 p13 q13)))) (fun tv _ _ => 3 - (intOf tv).toNat)
 case atStart => exact ⟨0, rfl, Below.refl _ _, .inl ⟨rfl, rfl⟩⟩
 case round =>
  obtain ⟨i5, rfl, hbel, hdis⟩ := hrel
  obtain ⟨wl5, rfl⟩ : ∃ W : World, W = wr := ⟨_, rfl⟩
  have HB5 := hJ hbel
  clear hbel
  rcases hdis with ⟨rfl, rfl⟩ | ⟨rfl, gx, cpx, sx0, Ax0, nx0, cx0, tx0, Bx0, mx0, dx0, rfl, HOX, HGX, HLX, HPX0⟩ | ⟨rfl, gx, cpx, sx0, Ax0, nx0, cx0, tx0, Bx0, mx0, dx0, sx1, Ax1, nx1, cx1, tx1, Bx1, mx1, dx1, rfl, HOX, HGX, HLX, HPX0, HPX1⟩ | ⟨rfl, gx, cpx, sx0, Ax0, nx0, cx0, tx0, Bx0, mx0, dx0, sx1, Ax1, nx1, cx1, tx1, Bx1, mx1, dx1, sx2, Ax2, nx2, cx2, tx2, Bx2, mx2, dx2, rfl, HOX, HGX, HLX, HPX0, HPX1, HPX2⟩
  ·(try rw [show ((0 : Nat) : Int) = 0 from rfl])
   have HQ4x0w5 := hJ (BX.new HQ4x0.out HB5.out)
   obtain ⟨cl6, cl7, cl8, cl9⟩ := HQ4x0w5.out.c4 0 1 2 3 rfl rfl rfl rfl
   have HC1_5 := hJ (bt (bt (bt HB2.out HB3.out) HB4.out) HB5.out)
   have HR1hr11w5 := hJ (RNo.new HR1hr11.out HC1_5.out)
   have HR1hs11w5 := hJ (RNo.new HR1hs11.out HC1_5.out)
   go_wp2_with fail
   clear cl6 cl7 cl8 cl9
   refine (l4of_any p11 q11 s11 A11 n11 c11 t11 B11 m11 d11 wl5 HR1hr11w5.out HR1hs11w5.out HFR11.out.1).mono ?_
   rintro e w10 ⟨s14, A14, n14, c14, t14, B14, m14, d14, rfl, hr14, hb⟩
   have HB10 := hJ hb
   have HR10hr14 := hJ hr14
   clear hb hr14
   obtain ⟨x11, hx11⟩ := nmz (w10.alloc (.cells #[.bool s14, .slice A14 n14 c14, .bool t14, .slice B14 m14 d14] 35))
   have HB11 := hJ (show Below w10.heap.size w10 x11 by rw [← hx11]; exact ((Below.refl _ _).alloc (Nat.le_refl _) _))
   have HQ11x0 := hJ (show BX 35 x11 w10.heap.size #[.bool s14, .slice A14 n14 c14, .bool t14, .slice B14 m14 d14] by rw [← hx11]; exact (BX.at rfl))
   have HG11x0 := hJ (show w10.heap.size ≤ w10.heap.size by omega)
   have HL11x0 := hJ (show w10.heap.size < x11.heap.size from HQ11x0.out.lt)
   have HO12 := hJ (OwnR.nil noD x11 x4.heap.size 35 4)
   have HC4_7 := hJ (bt (bt HB5.out HB10.out) HB11.out)
   go_wp2_with (at_builtin; refine wpList_append_okv noD rfl _ _ 60 rfl x4.heap.size 35 i35 _ 4 64 Tryz.underlying60 HT35.out.1 HT35.out.2.1 HT35.out.2.2.1 HT35.out.2.2.2 rfl rfl (by decide) (.slice none 0 0) 0 [] rfl HO12.out ⟨w10.heap.size, 0, none⟩ 1 1 [.bool s14, .slice A14 n14 c14, .bool t14, .slice B14 m14 d14] rfl rfl (BX.news HQ11x0.out) (List.all_eq_true (p := Value.oneCell')|>.1 rfl) rfl (by unfold maxLen; omega) (by omega) (HC4_7.out).size (by decide) ?_; intro va wa hown hgrow; refine stop_here (fun q HSTP => ?_))
   clear hx11
   rw [HSTP.out]
   clear HSTP q
   have hown : OwnR noD wa x4.heap.size 35 4 va 1 [.bool s14, .slice A14 n14 c14, .bool t14, .slice B14 m14 d14] := hown
   obtain ⟨ga13, cp13, rfl, hg1, hg2, hcap, _⟩ := hown.row (by decide)
   obtain ⟨w13, rfl⟩ : ∃ W, W = wa := ⟨_, rfl⟩
   have HO13 := hJ (show OwnR noD w13 x4.heap.size 35 4 (.slice (some ⟨ga13, 0, none⟩) 1 cp13) 1 [.bool s14, .slice A14 n14 c14, .bool t14, .slice B14 m14 d14] from hown)
   have HG13 := hJ hg1
   have HL13 := hJ hg2
   have HW13 := hJ hgrow
   have HN13 := hJ (show 1 ≤ cp13 from hcap)
   clear hown hg1 hg2 hgrow hcap
   have HC5_7 := hJ (bt HB10.out HB11.out)
   have HQ4x0w7 := hJ (BX.new HQ4x0w5.out HC5_7.out)
   have HQ4x0w8 := hJ (show BX 41 w13 w3.heap.size #[.bool s11, .slice A11 n11 c11, .bool t11, .slice B11 m11 d11, .bool s12, .slice A12 n12 c12, .bool t12, .slice B12 m12 d12, .bool s13, .slice A13 n13 c13, .bool t13, .slice B13 m13 d13] from BX.grow HQ4x0w7.out HW13.out nil_own)
   have HS14 : Hid (∀ w', Below w13.heap.size w13 w' → (fun w' : World => w'.cell? ⟨ga13, 0, none⟩ = some (.bool s14) ∧ w'.cell? ⟨ga13, 1, none⟩ = some (.slice A14 n14 c14) ∧ w'.cell? ⟨ga13, 2, none⟩ = some (.bool t14) ∧ w'.cell? ⟨ga13, 3, none⟩ = some (.slice B14 m14 d14) ∧ w'.cell? ⟨w3.heap.size, 0, none⟩ = some (.bool s11) ∧ w'.cell? ⟨w3.heap.size, 1, none⟩ = some (.slice A11 n11 c11) ∧ w'.cell? ⟨w3.heap.size, 2, none⟩ = some (.bool t11) ∧ w'.cell? ⟨w3.heap.size, 3, none⟩ = some (.slice B11 m11 d11) ∧ Below w13.heap.size w13 w') w') := hJ (fun w' hb => ⟨(OwnR.new HO13.out hb).at 0 rfl, (OwnR.new HO13.out hb).at 1 rfl, (OwnR.new HO13.out hb).at 2 rfl, (OwnR.new HO13.out hb).at 3 rfl, (BX.new HQ4x0w8.out hb).cell 0 rfl, (BX.new HQ4x0w8.out hb).cell 1 rfl, (BX.new HQ4x0w8.out hb).cell 2 rfl, (BX.new HQ4x0w8.out hb).cell 3 rfl, hb⟩)
   have HR10hr14w7 := hJ (PF.new HR10hr14.out HB11.out)
   have HR10hr14w8 := hJ (show PF w13 s14 A14 n14 c14 t14 B14 m14 d14 p11 q11 from PF.grow HR10hr14w7.out HW13.out (fun _ => rfl))
   have HR1hr11w7 := hJ (RNo.new HR1hr11w5.out HC5_7.out)
   have HR1hr11w8 := hJ (show RN w13 s11 A11 n11 c11 p11 from RNo.grow HR1hr11w7.out HW13.out (fun _ => rfl))
   go_wp2_with fail
   obtain ⟨v14, hv14⟩ := nmz (World.drew w13)
   have HX14 := hJ (show Below w13.heap.size w13 v14 by rw [← hv14]; exact (Below.refl _ _).drew)
   refine wp_region_held_drew (S := (fun w' : World => w'.cell? ⟨ga13, 0, none⟩ = some (.bool s14) ∧ w'.cell? ⟨ga13, 1, none⟩ = some (.slice A14 n14 c14) ∧ w'.cell? ⟨ga13, 2, none⟩ = some (.bool t14) ∧ w'.cell? ⟨ga13, 3, none⟩ = some (.slice B14 m14 d14) ∧ w'.cell? ⟨w3.heap.size, 0, none⟩ = some (.bool s11) ∧ w'.cell? ⟨w3.heap.size, 1, none⟩ = some (.slice A11 n11 c11) ∧ w'.cell? ⟨w3.heap.size, 2, none⟩ = some (.bool t11) ∧ w'.cell? ⟨w3.heap.size, 3, none⟩ = some (.slice B11 m11 d11) ∧ Below w13.heap.size w13 w')) (by kernel_rfl) ?_ (fun hHeld => ?_)
   ·rw [hv14]
    exact HS14.out _ HX14.out
   rw [hv14] at hHeld ⊢
   clear hv14
   refine tq 0 ?_
   try simp only [PT]
   refine tq 1 ?_
   try simp only [PT]
   refine tq 2 ?_
   try simp only [PT]
   refine tq 3 ?_
   try simp only [PT]
   refine tq 5 ?_
   try simp only [PT]
   refine tq 6 ?_
   try simp only [PT]
   refine tq 7 ?_
   try simp only [PT]
   refine tq 8 ?_
   try simp only [PT]
   refine wpAnyH_ready (rs := [4]) (by kernel_rfl) (by simp) ?_
   refine .cons rfl (fun K hK => ?_) .nil
   go_simp
   go_at_call 44
   refine (fsign_any p11 q11 s14 t14 A14 B14 n14 c14 m14 d14 v14 (PF.new HR10hr14w8.out HX14.out) HFR11.out.1.2.1).mono ?_
   rintro e v15 ⟨rfl, hb⟩
   have HB15 := hJ hb
   clear hb
   go_wp2_with fail
   have HX15 := hJ (bt HX14.out HB15.out)
   clear hHeld
   refine hK.out _ _ (HS14.out _ HX15.out) (fun hHeld => ?_)
   clear hK K
   try simp only [PT]
   refine wpAnyH_ready (rs := [9]) (by kernel_rfl) (by simp) ?_
   refine .cons rfl (fun K hK => ?_) .nil
   go_simp
   go_at_call 45
   refine (r4sign_any p11 s11 A11 n11 c11 t11 B11 m11 d11 v15 (RNo.new HR1hr11w8.out HX15.out)).mono ?_
   rintro e v16 ⟨rfl, hb⟩
   have HB16 := hJ hb
   clear hb
   go_wp2_with fail
   have HX16 := hJ (bt HX15.out HB16.out)
   clear hHeld
   refine hK.out _ _ (HS14.out _ HX16.out) (fun hHeld => ?_)
   clear hK K
   try simp only [PT]
   refine tq 10 ?_
   try simp only [PT]
   refine wpAnyH_done (by kernel_rfl) ?_ _
   clear hHeld
   have HO13w9 := hJ (OwnR.new HO13.out HX16.out)
   have HC4_8 := hJ (show Below x4.heap.size x4 w13 from Grew.below HC4_7.out HW13.out HO12.out (Nat.le_refl _) (HC4_7.out).size)
   have HC4_9 := hJ (bt HC4_8.out HX16.out)
   have HLT17 := hJ (Nat.lt_of_lt_of_le HL13.out (HX16.out).size)
   have HR10hr14w9 := hJ (PF.new HR10hr14w8.out HX16.out)
   go_wp2_with fail
   go_roundw
   case rel => exact ⟨1, by go_num, HC4_9.out, .inr (.inl ⟨rfl, ga13, cp13, s14, A14, n14, c14, t14, B14, m14, d14, rfl, HO13w9, HG13, HLT17, hJ HR10hr14w9.out⟩)⟩
   case measure => simp [intOf] <;> omega
  ·(try rw [show ((1 : Nat) : Int) = 1 from rfl])
   have HQ4x0w5 := hJ (BX.new HQ4x0.out HB5.out)
   obtain ⟨cl18, cl19, cl20, cl21⟩ := HQ4x0w5.out.c4 4 5 6 7 rfl rfl rfl rfl
   have HC2_5 := hJ (bt (bt HB3.out HB4.out) HB5.out)
   have HR2hr12w5 := hJ (RNo.new HR2hr12.out HC2_5.out)
   have HR2hs12w5 := hJ (RNo.new HR2hs12.out HC2_5.out)
   go_wp2_with fail
   clear cl18 cl19 cl20 cl21
   refine (l4of_any p12 q12 s12 A12 n12 c12 t12 B12 m12 d12 wl5 HR2hr12w5.out HR2hs12w5.out HFR12.out.1).mono ?_
   rintro e w22 ⟨s15, A15, n15, c15, t15, B15, m15, d15, rfl, hr15, hb⟩
   have HB22 := hJ hb
   have HR22hr15 := hJ hr15
   clear hb hr15
   obtain ⟨x23, hx23⟩ := nmz (w22.alloc (.cells #[.bool s15, .slice A15 n15 c15, .bool t15, .slice B15 m15 d15] 35))
   have HB23 := hJ (show Below w22.heap.size w22 x23 by rw [← hx23]; exact ((Below.refl _ _).alloc (Nat.le_refl _) _))
   have HQ23x0 := hJ (show BX 35 x23 w22.heap.size #[.bool s15, .slice A15 n15 c15, .bool t15, .slice B15 m15 d15] by rw [← hx23]; exact (BX.at rfl))
   have HG23x0 := hJ (show w22.heap.size ≤ w22.heap.size by omega)
   have HL23x0 := hJ (show w22.heap.size < x23.heap.size from HQ23x0.out.lt)
   have HC5_7 := hJ (bt HB22.out HB23.out)
   have HOXw7 := hJ (OwnR.new HOX.out HC5_7.out)
   have HC4_7 := hJ (bt (bt HB5.out HB22.out) HB23.out)
   go_wp2_with (at_builtin; refine wpList_append_okv noD rfl _ _ 60 rfl x4.heap.size 35 i35 _ 4 64 Tryz.underlying60 HT35.out.1 HT35.out.2.1 HT35.out.2.2.1 HT35.out.2.2.2 rfl rfl (by decide) (.slice (some ⟨gx, 0, none⟩) 1 cpx) 1 [.bool sx0, .slice Ax0 nx0 cx0, .bool tx0, .slice Bx0 mx0 dx0] rfl HOXw7.out ⟨w22.heap.size, 0, none⟩ 1 1 [.bool s15, .slice A15 n15 c15, .bool t15, .slice B15 m15 d15] rfl rfl (BX.news HQ23x0.out) (List.all_eq_true (p := Value.oneCell')|>.1 rfl) rfl (by unfold maxLen; omega) (by omega) (HC4_7.out).size (by decide) ?_; intro va wa hown hgrow; refine stop_here (fun q HSTP => ?_))
   clear hx23
   rw [HSTP.out]
   clear HSTP q
   have hown : OwnR noD wa x4.heap.size 35 4 va 2 [.bool sx0, .slice Ax0 nx0 cx0, .bool tx0, .slice Bx0 mx0 dx0, .bool s15, .slice A15 n15 c15, .bool t15, .slice B15 m15 d15] := hown
   obtain ⟨ga24, cp24, rfl, hg1, hg2, hcap, _⟩ := hown.row (by decide)
   obtain ⟨w24, rfl⟩ : ∃ W, W = wa := ⟨_, rfl⟩
   have HO24 := hJ (show OwnR noD w24 x4.heap.size 35 4 (.slice (some ⟨ga24, 0, none⟩) 2 cp24) 2 [.bool sx0, .slice Ax0 nx0 cx0, .bool tx0, .slice Bx0 mx0 dx0, .bool s15, .slice A15 n15 c15, .bool t15, .slice B15 m15 d15] from hown)
   have HG24 := hJ hg1
   have HL24 := hJ hg2
   have HW24 := hJ hgrow
   have HN24 := hJ (show 2 ≤ cp24 from hcap)
   clear hown hg1 hg2 hgrow hcap
   have HQ4x0w7 := hJ (BX.new HQ4x0w5.out HC5_7.out)
   have HQ4x0w8 := hJ (show BX 41 w24 w3.heap.size #[.bool s11, .slice A11 n11 c11, .bool t11, .slice B11 m11 d11, .bool s12, .slice A12 n12 c12, .bool t12, .slice B12 m12 d12, .bool s13, .slice A13 n13 c13, .bool t13, .slice B13 m13 d13] from BX.grow HQ4x0w7.out HW24.out (at_own (show gx ≠ w3.heap.size by have h1 := HL4x0.out; have h2 := HGX.out; have h3 := ((Below.refl x4.heap.size x4)).size; omega)))
   have HS25 : Hid (∀ w', Below w24.heap.size w24 w' → (fun w' : World => w'.cell? ⟨ga24, 4, none⟩ = some (.bool s15) ∧ w'.cell? ⟨ga24, 5, none⟩ = some (.slice A15 n15 c15) ∧ w'.cell? ⟨ga24, 6, none⟩ = some (.bool t15) ∧ w'.cell? ⟨ga24, 7, none⟩ = some (.slice B15 m15 d15) ∧ w'.cell? ⟨w3.heap.size, 4, none⟩ = some (.bool s12) ∧ w'.cell? ⟨w3.heap.size, 5, none⟩ = some (.slice A12 n12 c12) ∧ w'.cell? ⟨w3.heap.size, 6, none⟩ = some (.bool t12) ∧ w'.cell? ⟨w3.heap.size, 7, none⟩ = some (.slice B12 m12 d12) ∧ Below w24.heap.size w24 w') w') := hJ (fun w' hb => ⟨(OwnR.new HO24.out hb).at 4 rfl, (OwnR.new HO24.out hb).at 5 rfl, (OwnR.new HO24.out hb).at 6 rfl, (OwnR.new HO24.out hb).at 7 rfl, (BX.new HQ4x0w8.out hb).cell 4 rfl, (BX.new HQ4x0w8.out hb).cell 5 rfl, (BX.new HQ4x0w8.out hb).cell 6 rfl, (BX.new HQ4x0w8.out hb).cell 7 rfl, hb⟩)
   have HR22hr15w7 := hJ (PF.new HR22hr15.out HB23.out)
   have HR22hr15w8 := hJ (show PF w24 s15 A15 n15 c15 t15 B15 m15 d15 p12 q12 from PF.grow HR22hr15w7.out HW24.out (fun _ => rfl))
   have HR2hr12w7 := hJ (RNo.new HR2hr12w5.out HC5_7.out)
   have HR2hr12w8 := hJ (show RN w24 s12 A12 n12 c12 p12 from RNo.grow HR2hr12w7.out HW24.out (fun _ => rfl))
   go_wp2_with fail
   obtain ⟨v25, hv25⟩ := nmz (World.drew w24)
   have HX25 := hJ (show Below w24.heap.size w24 v25 by rw [← hv25]; exact (Below.refl _ _).drew)
   refine wp_region_held_drew (S := (fun w' : World => w'.cell? ⟨ga24, 4, none⟩ = some (.bool s15) ∧ w'.cell? ⟨ga24, 5, none⟩ = some (.slice A15 n15 c15) ∧ w'.cell? ⟨ga24, 6, none⟩ = some (.bool t15) ∧ w'.cell? ⟨ga24, 7, none⟩ = some (.slice B15 m15 d15) ∧ w'.cell? ⟨w3.heap.size, 4, none⟩ = some (.bool s12) ∧ w'.cell? ⟨w3.heap.size, 5, none⟩ = some (.slice A12 n12 c12) ∧ w'.cell? ⟨w3.heap.size, 6, none⟩ = some (.bool t12) ∧ w'.cell? ⟨w3.heap.size, 7, none⟩ = some (.slice B12 m12 d12) ∧ Below w24.heap.size w24 w')) (by kernel_rfl) ?_ (fun hHeld => ?_)
   ·rw [hv25]
    exact HS25.out _ HX25.out
   rw [hv25] at hHeld ⊢
   clear hv25
   refine tq 0 ?_
   try simp only [PT]
   refine tq 1 ?_
   try simp only [PT]
   refine tq 2 ?_
   try simp only [PT]
   refine tq 3 ?_
   try simp only [PT]
   refine tq 5 ?_
   try simp only [PT]
   refine tq 6 ?_
   try simp only [PT]
   refine tq 7 ?_
   try simp only [PT]
   refine tq 8 ?_
   try simp only [PT]
   refine wpAnyH_ready (rs := [4]) (by kernel_rfl) (by simp) ?_
   refine .cons rfl (fun K hK => ?_) .nil
   go_simp
   go_at_call 44
   refine (fsign_any p12 q12 s15 t15 A15 B15 n15 c15 m15 d15 v25 (PF.new HR22hr15w8.out HX25.out) HFR12.out.1.2.1).mono ?_
   rintro e v26 ⟨rfl, hb⟩
   have HB26 := hJ hb
   clear hb
   go_wp2_with fail
   have HX26 := hJ (bt HX25.out HB26.out)
   clear hHeld
   refine hK.out _ _ (HS25.out _ HX26.out) (fun hHeld => ?_)
   clear hK K
   try simp only [PT]
   refine wpAnyH_ready (rs := [9]) (by kernel_rfl) (by simp) ?_
   refine .cons rfl (fun K hK => ?_) .nil
   go_simp
   go_at_call 45
   refine (r4sign_any p12 s12 A12 n12 c12 t12 B12 m12 d12 v26 (RNo.new HR2hr12w8.out HX26.out)).mono ?_
   rintro e v27 ⟨rfl, hb⟩
   have HB27 := hJ hb
   clear hb
   go_wp2_with fail
   have HX27 := hJ (bt HX26.out HB27.out)
   clear hHeld
   refine hK.out _ _ (HS25.out _ HX27.out) (fun hHeld => ?_)
   clear hK K
   try simp only [PT]
   refine tq 10 ?_
   try simp only [PT]
   refine wpAnyH_done (by kernel_rfl) ?_ _
   clear hHeld
   have HO24w9 := hJ (OwnR.new HO24.out HX27.out)
   have HC4_8 := hJ (show Below x4.heap.size x4 w24 from Grew.below HC4_7.out HW24.out HOXw7.out (Nat.le_refl _) (HC4_7.out).size)
   have HC4_9 := hJ (bt HC4_8.out HX27.out)
   have HLT28 := hJ (Nat.lt_of_lt_of_le HL24.out (HX27.out).size)
   have HPX0w7 := hJ (PF.new HPX0.out HC5_7.out)
   have HPX0w8 := hJ (show PF w24 sx0 Ax0 nx0 cx0 tx0 Bx0 mx0 dx0 p11 q11 from PF.grow HPX0w7.out HW24.out (fun _ => rfl))
   have HPX0w9 := hJ (PF.new HPX0w8.out HX27.out)
   have HR22hr15w9 := hJ (PF.new HR22hr15w8.out HX27.out)
   go_wp2_with fail
   go_roundw
   case rel => exact ⟨2, by go_num, HC4_9.out, .inr (.inr (.inl ⟨rfl, ga24, cp24, sx0, Ax0, nx0, cx0, tx0, Bx0, mx0, dx0, s15, A15, n15, c15, t15, B15, m15, d15, rfl, HO24w9, HG24, HLT28, hJ HPX0w9.out, hJ HR22hr15w9.out⟩))⟩
   case measure => simp [intOf] <;> omega
  ·(try rw [show ((2 : Nat) : Int) = 2 from rfl])
   have HQ4x0w5 := hJ (BX.new HQ4x0.out HB5.out)
   obtain ⟨cl29, cl30, cl31, cl32⟩ := HQ4x0w5.out.c4 8 9 10 11 rfl rfl rfl rfl
   have HC3_5 := hJ (bt HB4.out HB5.out)
   have HR3hr13w5 := hJ (RNo.new HR3hr13.out HC3_5.out)
   have HR3hs13w5 := hJ (RNo.new HR3hs13.out HC3_5.out)
   go_wp2_with fail
   clear cl29 cl30 cl31 cl32
   refine (l4of_any p13 q13 s13 A13 n13 c13 t13 B13 m13 d13 wl5 HR3hr13w5.out HR3hs13w5.out HFR13.out.1).mono ?_
   rintro e w33 ⟨s16, A16, n16, c16, t16, B16, m16, d16, rfl, hr16, hb⟩
   have HB33 := hJ hb
   have HR33hr16 := hJ hr16
   clear hb hr16
   obtain ⟨x34, hx34⟩ := nmz (w33.alloc (.cells #[.bool s16, .slice A16 n16 c16, .bool t16, .slice B16 m16 d16] 35))
   have HB34 := hJ (show Below w33.heap.size w33 x34 by rw [← hx34]; exact ((Below.refl _ _).alloc (Nat.le_refl _) _))
   have HQ34x0 := hJ (show BX 35 x34 w33.heap.size #[.bool s16, .slice A16 n16 c16, .bool t16, .slice B16 m16 d16] by rw [← hx34]; exact (BX.at rfl))
   have HG34x0 := hJ (show w33.heap.size ≤ w33.heap.size by omega)
   have HL34x0 := hJ (show w33.heap.size < x34.heap.size from HQ34x0.out.lt)
   have HC5_7 := hJ (bt HB33.out HB34.out)
   have HOXw7 := hJ (OwnR.new HOX.out HC5_7.out)
   have HC4_7 := hJ (bt (bt HB5.out HB33.out) HB34.out)
   go_wp2_with (at_builtin; refine wpList_append_okv noD rfl _ _ 60 rfl x4.heap.size 35 i35 _ 4 64 Tryz.underlying60 HT35.out.1 HT35.out.2.1 HT35.out.2.2.1 HT35.out.2.2.2 rfl rfl (by decide) (.slice (some ⟨gx, 0, none⟩) 2 cpx) 2 [.bool sx0, .slice Ax0 nx0 cx0, .bool tx0, .slice Bx0 mx0 dx0, .bool sx1, .slice Ax1 nx1 cx1, .bool tx1, .slice Bx1 mx1 dx1] rfl HOXw7.out ⟨w33.heap.size, 0, none⟩ 1 1 [.bool s16, .slice A16 n16 c16, .bool t16, .slice B16 m16 d16] rfl rfl (BX.news HQ34x0.out) (List.all_eq_true (p := Value.oneCell')|>.1 rfl) rfl (by unfold maxLen; omega) (by omega) (HC4_7.out).size (by decide) ?_; intro va wa hown hgrow; refine stop_here (fun q HSTP => ?_))
   clear hx34
   rw [HSTP.out]
   clear HSTP q
   have hown : OwnR noD wa x4.heap.size 35 4 va 3 [.bool sx0, .slice Ax0 nx0 cx0, .bool tx0, .slice Bx0 mx0 dx0, .bool sx1, .slice Ax1 nx1 cx1, .bool tx1, .slice Bx1 mx1 dx1, .bool s16, .slice A16 n16 c16, .bool t16, .slice B16 m16 d16] := hown
   obtain ⟨ga35, cp35, rfl, hg1, hg2, hcap, _⟩ := hown.row (by decide)
   obtain ⟨w35, rfl⟩ : ∃ W, W = wa := ⟨_, rfl⟩
   have HO35 := hJ (show OwnR noD w35 x4.heap.size 35 4 (.slice (some ⟨ga35, 0, none⟩) 3 cp35) 3 [.bool sx0, .slice Ax0 nx0 cx0, .bool tx0, .slice Bx0 mx0 dx0, .bool sx1, .slice Ax1 nx1 cx1, .bool tx1, .slice Bx1 mx1 dx1, .bool s16, .slice A16 n16 c16, .bool t16, .slice B16 m16 d16] from hown)
   have HG35 := hJ hg1
   have HL35 := hJ hg2
   have HW35 := hJ hgrow
   have HN35 := hJ (show 3 ≤ cp35 from hcap)
   clear hown hg1 hg2 hgrow hcap
   have HQ4x0w7 := hJ (BX.new HQ4x0w5.out HC5_7.out)
   have HQ4x0w8 := hJ (show BX 41 w35 w3.heap.size #[.bool s11, .slice A11 n11 c11, .bool t11, .slice B11 m11 d11, .bool s12, .slice A12 n12 c12, .bool t12, .slice B12 m12 d12, .bool s13, .slice A13 n13 c13, .bool t13, .slice B13 m13 d13] from BX.grow HQ4x0w7.out HW35.out (at_own (show gx ≠ w3.heap.size by have h1 := HL4x0.out; have h2 := HGX.out; have h3 := ((Below.refl x4.heap.size x4)).size; omega)))
   have HS36 : Hid (∀ w', Below w35.heap.size w35 w' → (fun w' : World => w'.cell? ⟨ga35, 8, none⟩ = some (.bool s16) ∧ w'.cell? ⟨ga35, 9, none⟩ = some (.slice A16 n16 c16) ∧ w'.cell? ⟨ga35, 10, none⟩ = some (.bool t16) ∧ w'.cell? ⟨ga35, 11, none⟩ = some (.slice B16 m16 d16) ∧ w'.cell? ⟨w3.heap.size, 8, none⟩ = some (.bool s13) ∧ w'.cell? ⟨w3.heap.size, 9, none⟩ = some (.slice A13 n13 c13) ∧ w'.cell? ⟨w3.heap.size, 10, none⟩ = some (.bool t13) ∧ w'.cell? ⟨w3.heap.size, 11, none⟩ = some (.slice B13 m13 d13) ∧ Below w35.heap.size w35 w') w') := hJ (fun w' hb => ⟨(OwnR.new HO35.out hb).at 8 rfl, (OwnR.new HO35.out hb).at 9 rfl, (OwnR.new HO35.out hb).at 10 rfl, (OwnR.new HO35.out hb).at 11 rfl, (BX.new HQ4x0w8.out hb).cell 8 rfl, (BX.new HQ4x0w8.out hb).cell 9 rfl, (BX.new HQ4x0w8.out hb).cell 10 rfl, (BX.new HQ4x0w8.out hb).cell 11 rfl, hb⟩)
   have HR33hr16w7 := hJ (PF.new HR33hr16.out HB34.out)
   have HR33hr16w8 := hJ (show PF w35 s16 A16 n16 c16 t16 B16 m16 d16 p13 q13 from PF.grow HR33hr16w7.out HW35.out (fun _ => rfl))
   have HR3hr13w7 := hJ (RNo.new HR3hr13w5.out HC5_7.out)
   have HR3hr13w8 := hJ (show RN w35 s13 A13 n13 c13 p13 from RNo.grow HR3hr13w7.out HW35.out (fun _ => rfl))
   go_wp2_with fail
   obtain ⟨v36, hv36⟩ := nmz (World.drew w35)
   have HX36 := hJ (show Below w35.heap.size w35 v36 by rw [← hv36]; exact (Below.refl _ _).drew)
   refine wp_region_held_drew (S := (fun w' : World => w'.cell? ⟨ga35, 8, none⟩ = some (.bool s16) ∧ w'.cell? ⟨ga35, 9, none⟩ = some (.slice A16 n16 c16) ∧ w'.cell? ⟨ga35, 10, none⟩ = some (.bool t16) ∧ w'.cell? ⟨ga35, 11, none⟩ = some (.slice B16 m16 d16) ∧ w'.cell? ⟨w3.heap.size, 8, none⟩ = some (.bool s13) ∧ w'.cell? ⟨w3.heap.size, 9, none⟩ = some (.slice A13 n13 c13) ∧ w'.cell? ⟨w3.heap.size, 10, none⟩ = some (.bool t13) ∧ w'.cell? ⟨w3.heap.size, 11, none⟩ = some (.slice B13 m13 d13) ∧ Below w35.heap.size w35 w')) (by kernel_rfl) ?_ (fun hHeld => ?_)
   ·rw [hv36]
    exact HS36.out _ HX36.out
   rw [hv36] at hHeld ⊢
   clear hv36
   refine tq 0 ?_
   try simp only [PT]
   refine tq 1 ?_
   try simp only [PT]
   refine tq 2 ?_
   try simp only [PT]
   refine tq 3 ?_
   try simp only [PT]
   refine tq 5 ?_
   try simp only [PT]
   refine tq 6 ?_
   try simp only [PT]
   refine tq 7 ?_
   try simp only [PT]
   refine tq 8 ?_
   try simp only [PT]
   refine wpAnyH_ready (rs := [4]) (by kernel_rfl) (by simp) ?_
   refine .cons rfl (fun K hK => ?_) .nil
   go_simp
   go_at_call 44
   refine (fsign_any p13 q13 s16 t16 A16 B16 n16 c16 m16 d16 v36 (PF.new HR33hr16w8.out HX36.out) HFR13.out.1.2.1).mono ?_
   rintro e v37 ⟨rfl, hb⟩
   have HB37 := hJ hb
   clear hb
   go_wp2_with fail
   have HX37 := hJ (bt HX36.out HB37.out)
   clear hHeld
   refine hK.out _ _ (HS36.out _ HX37.out) (fun hHeld => ?_)
   clear hK K
   try simp only [PT]
   refine wpAnyH_ready (rs := [9]) (by kernel_rfl) (by simp) ?_
   refine .cons rfl (fun K hK => ?_) .nil
   go_simp
   go_at_call 45
   refine (r4sign_any p13 s13 A13 n13 c13 t13 B13 m13 d13 v37 (RNo.new HR3hr13w8.out HX37.out)).mono ?_
   rintro e v38 ⟨rfl, hb⟩
   have HB38 := hJ hb
   clear hb
   go_wp2_with fail
   have HX38 := hJ (bt HX37.out HB38.out)
   clear hHeld
   refine hK.out _ _ (HS36.out _ HX38.out) (fun hHeld => ?_)
   clear hK K
   try simp only [PT]
   refine tq 10 ?_
   try simp only [PT]
   refine wpAnyH_done (by kernel_rfl) ?_ _
   clear hHeld
   have HO35w9 := hJ (OwnR.new HO35.out HX38.out)
   have HC4_8 := hJ (show Below x4.heap.size x4 w35 from Grew.below HC4_7.out HW35.out HOXw7.out (Nat.le_refl _) (HC4_7.out).size)
   have HC4_9 := hJ (bt HC4_8.out HX38.out)
   have HLT39 := hJ (Nat.lt_of_lt_of_le HL35.out (HX38.out).size)
   have HPX0w7 := hJ (PF.new HPX0.out HC5_7.out)
   have HPX0w8 := hJ (show PF w35 sx0 Ax0 nx0 cx0 tx0 Bx0 mx0 dx0 p11 q11 from PF.grow HPX0w7.out HW35.out (fun _ => rfl))
   have HPX0w9 := hJ (PF.new HPX0w8.out HX38.out)
   have HPX1w7 := hJ (PF.new HPX1.out HC5_7.out)
   have HPX1w8 := hJ (show PF w35 sx1 Ax1 nx1 cx1 tx1 Bx1 mx1 dx1 p12 q12 from PF.grow HPX1w7.out HW35.out (fun _ => rfl))
   have HPX1w9 := hJ (PF.new HPX1w8.out HX38.out)
   have HR33hr16w9 := hJ (PF.new HR33hr16w8.out HX38.out)
   go_wp2_with fail
   go_roundw
   case rel => exact ⟨3, by go_num, HC4_9.out, .inr (.inr (.inr (⟨rfl, ga35, cp35, sx0, Ax0, nx0, cx0, tx0, Bx0, mx0, dx0, sx1, Ax1, nx1, cx1, tx1, Bx1, mx1, dx1, s16, A16, n16, c16, t16, B16, m16, d16, rfl, HO35w9, HG35, HLT39, hJ HPX0w9.out, hJ HPX1w9.out, hJ HR33hr16w9.out⟩)))⟩
   case measure => simp [intOf] <;> omega
  ·(try rw [show ((3 : Nat) : Int) = 3 from rfl])
   go_wp2_with fail
   go_loopw [6] (fun tv wr => ∃ i : Nat, i ≤ 3 ∧ tv = .int .i64 (i : Int) ∧ Below wl5.heap.size wl5 wr) (fun tv _ => 3 - (intOf tv).toNat)
   case atStart => exact ⟨0, by omega, rfl, Below.refl _ _⟩
   case round =>
    obtain ⟨i40, hi, rfl, hbel⟩ := hrel
    obtain ⟨wl40, rfl⟩ : ∃ W : World, W = wr := ⟨_, rfl⟩
    have HB40 := hJ hbel
    clear hbel
    rcases (show i40 < 3 ∨ i40 = 3 by omega) with hlt | rfl
    ·have h0i : (0 : Int) ≤ (i40 : Int) := by omega
     have hli : (i40 : Int) < 3 := by omega
     have HC4_6 := hJ (bt HB5.out HB40.out)
     have HQ4x0w6 := hJ (BX.new HQ4x0.out HC4_6.out)
     have HOXw6 := hJ (OwnR.new HOX.out HB40.out)
     have HC1_6 := hJ (bt (bt (bt (bt HB2.out HB3.out) HB4.out) HB5.out) HB40.out)
     have HR1hr11w6 := hJ (RNo.new HR1hr11.out HC1_6.out)
     have HR1hs11w6 := hJ (RNo.new HR1hs11.out HC1_6.out)
     have HPX0w6 := hJ (PF.new HPX0.out HB40.out)
     have HC2_6 := hJ (bt (bt (bt HB3.out HB4.out) HB5.out) HB40.out)
     have HR2hr12w6 := hJ (RNo.new HR2hr12.out HC2_6.out)
     have HR2hs12w6 := hJ (RNo.new HR2hs12.out HC2_6.out)
     have HPX1w6 := hJ (PF.new HPX1.out HB40.out)
     have HC3_6 := hJ (bt (bt HB4.out HB5.out) HB40.out)
     have HR3hr13w6 := hJ (RNo.new HR3hr13.out HC3_6.out)
     have HR3hs13w6 := hJ (RNo.new HR3hs13.out HC3_6.out)
     have HPX2w6 := hJ (PF.new HPX2.out HB40.out)
     obtain ⟨s17, A17, n17, c17, t17, B17, m17, d17, s18, A18, n18, c18, t18, B18, m18, d18, p17, q17, h0, h1, h2, h3, h4, h5, h6, h7, h8, h9, h10, h11⟩ : ∃ (s17 : Bool) (A17 : Option Addr) (n17 c17 : Nat) (t17 : Bool) (B17 : Option Addr) (m17 d17 : Nat) (s18 : Bool) (A18 : Option Addr) (n18 c18 : Nat) (t18 : Bool) (B18 : Option Addr) (m18 d18 : Nat) (p17 q17 : Int), (#[.bool s11, .slice A11 n11 c11, .bool t11, .slice B11 m11 d11, .bool s12, .slice A12 n12 c12, .bool t12, .slice B12 m12 d12, .bool s13, .slice A13 n13 c13, .bool t13, .slice B13 m13 d13] : Array Value)[i40 * 4]? = some (.bool s17) ∧ (#[.bool s11, .slice A11 n11 c11, .bool t11, .slice B11 m11 d11, .bool s12, .slice A12 n12 c12, .bool t12, .slice B12 m12 d12, .bool s13, .slice A13 n13 c13, .bool t13, .slice B13 m13 d13] : Array Value)[i40 * 4 + 1]? = some (.slice A17 n17 c17) ∧ (#[.bool s11, .slice A11 n11 c11, .bool t11, .slice B11 m11 d11, .bool s12, .slice A12 n12 c12, .bool t12, .slice B12 m12 d12, .bool s13, .slice A13 n13 c13, .bool t13, .slice B13 m13 d13] : Array Value)[i40 * 4 + 2]? = some (.bool t17) ∧ (#[.bool s11, .slice A11 n11 c11, .bool t11, .slice B11 m11 d11, .bool s12, .slice A12 n12 c12, .bool t12, .slice B12 m12 d12, .bool s13, .slice A13 n13 c13, .bool t13, .slice B13 m13 d13] : Array Value)[i40 * 4 + 3]? = some (.slice B17 m17 d17) ∧ ([.bool sx0, .slice Ax0 nx0 cx0, .bool tx0, .slice Bx0 mx0 dx0, .bool sx1, .slice Ax1 nx1 cx1, .bool tx1, .slice Bx1 mx1 dx1, .bool sx2, .slice Ax2 nx2 cx2, .bool tx2, .slice Bx2 mx2 dx2] : List Value)[i40 * 4]? = some (.bool s18) ∧ ([.bool sx0, .slice Ax0 nx0 cx0, .bool tx0, .slice Bx0 mx0 dx0, .bool sx1, .slice Ax1 nx1 cx1, .bool tx1, .slice Bx1 mx1 dx1, .bool sx2, .slice Ax2 nx2 cx2, .bool tx2, .slice Bx2 mx2 dx2] : List Value)[i40 * 4 + 1]? = some (.slice A18 n18 c18) ∧ ([.bool sx0, .slice Ax0 nx0 cx0, .bool tx0, .slice Bx0 mx0 dx0, .bool sx1, .slice Ax1 nx1 cx1, .bool tx1, .slice Bx1 mx1 dx1, .bool sx2, .slice Ax2 nx2 cx2, .bool tx2, .slice Bx2 mx2 dx2] : List Value)[i40 * 4 + 2]? = some (.bool t18) ∧ ([.bool sx0, .slice Ax0 nx0 cx0, .bool tx0, .slice Bx0 mx0 dx0, .bool sx1, .slice Ax1 nx1 cx1, .bool tx1, .slice Bx1 mx1 dx1, .bool sx2, .slice Ax2 nx2 cx2, .bool tx2, .slice Bx2 mx2 dx2] : List Value)[i40 * 4 + 3]? = some (.slice B18 m18 d18) ∧ RN wl40 s17 A17 n17 c17 p17 ∧ RN wl40 t17 B17 m17 d17 q17 ∧ PF wl40 s18 A18 n18 c18 t18 B18 m18 d18 p17 q17 ∧ Fr p17 q17 := by
      have hcs : i40 = 0 ∨ i40 = 1 ∨ i40 = 2 := by omega
      rcases hcs with rfl | rfl | rfl
      ·exact ⟨_, _, _, _, _, _, _, _, _, _, _, _, _, _, _, _, _, _, rfl, rfl, rfl, rfl, rfl, rfl, rfl, rfl, HR1hr11w6.out, HR1hs11w6.out, HPX0w6.out, HFR11.out.1⟩
      ·exact ⟨_, _, _, _, _, _, _, _, _, _, _, _, _, _, _, _, _, _, rfl, rfl, rfl, rfl, rfl, rfl, rfl, rfl, HR2hr12w6.out, HR2hs12w6.out, HPX1w6.out, HFR12.out.1⟩
      ·exact ⟨_, _, _, _, _, _, _, _, _, _, _, _, _, _, _, _, _, _, rfl, rfl, rfl, rfl, rfl, rfl, rfl, rfl, HR3hr13w6.out, HR3hs13w6.out, HPX2w6.out, HFR13.out.1⟩
     have HS17_0 := hJ h0
     have HS17_1 := hJ h1
     have HS17_2 := hJ h2
     have HS17_3 := hJ h3
     have HS17_4 := hJ h4
     have HS17_5 := hJ h5
     have HS17_6 := hJ h6
     have HS17_7 := hJ h7
     have HS17_8 := hJ h8
     have HS17_9 := hJ h9
     have HS17_10 := hJ h10
     have HS17_11 := hJ h11
     clear h0 h1 h2 h3 h4 h5 h6 h7 h8 h9 h10 h11
     go_wp2_with fail
     go_loopw [7] (fun tv wr => ∃ i : Nat, i ≤ 3 ∧ tv = .int .i64 (i : Int) ∧ Below wl40.heap.size wl40 wr) (fun tv _ => 3 - (intOf tv).toNat)
     case atStart => exact ⟨0, by omega, rfl, Below.refl _ _⟩
     case round =>
      obtain ⟨i41, hi, rfl, hbel⟩ := hrel
      obtain ⟨wl41, rfl⟩ : ∃ W : World, W = wr := ⟨_, rfl⟩
      have HB41 := hJ hbel
      clear hbel
      rcases (show i41 < 3 ∨ i41 = 3 by omega) with hlt | rfl
      ·have h0i : (0 : Int) ≤ (i41 : Int) := by omega
       have hli : (i41 : Int) < 3 := by omega
       have HQ4x0w7 := hJ (BX.new HQ4x0w6.out HB41.out)
       have HOXw7 := hJ (OwnR.new HOXw6.out HB41.out)
       have HR1hr11w7 := hJ (RNo.new HR1hr11w6.out HB41.out)
       have HR1hs11w7 := hJ (RNo.new HR1hs11w6.out HB41.out)
       have HPX0w7 := hJ (PF.new HPX0w6.out HB41.out)
       have HR2hr12w7 := hJ (RNo.new HR2hr12w6.out HB41.out)
       have HR2hs12w7 := hJ (RNo.new HR2hs12w6.out HB41.out)
       have HPX1w7 := hJ (PF.new HPX1w6.out HB41.out)
       have HR3hr13w7 := hJ (RNo.new HR3hr13w6.out HB41.out)
       have HR3hs13w7 := hJ (RNo.new HR3hs13w6.out HB41.out)
       have HPX2w7 := hJ (PF.new HPX2w6.out HB41.out)
       obtain ⟨s19, A19, n19, c19, t19, B19, m19, d19, s20, A20, n20, c20, t20, B20, m20, d20, p19, q19, h0, h1, h2, h3, h4, h5, h6, h7, h8, h9, h10, h11⟩ : ∃ (s19 : Bool) (A19 : Option Addr) (n19 c19 : Nat) (t19 : Bool) (B19 : Option Addr) (m19 d19 : Nat) (s20 : Bool) (A20 : Option Addr) (n20 c20 : Nat) (t20 : Bool) (B20 : Option Addr) (m20 d20 : Nat) (p19 q19 : Int), (#[.bool s11, .slice A11 n11 c11, .bool t11, .slice B11 m11 d11, .bool s12, .slice A12 n12 c12, .bool t12, .slice B12 m12 d12, .bool s13, .slice A13 n13 c13, .bool t13, .slice B13 m13 d13] : Array Value)[i41 * 4]? = some (.bool s19) ∧ (#[.bool s11, .slice A11 n11 c11, .bool t11, .slice B11 m11 d11, .bool s12, .slice A12 n12 c12, .bool t12, .slice B12 m12 d12, .bool s13, .slice A13 n13 c13, .bool t13, .slice B13 m13 d13] : Array Value)[i41 * 4 + 1]? = some (.slice A19 n19 c19) ∧ (#[.bool s11, .slice A11 n11 c11, .bool t11, .slice B11 m11 d11, .bool s12, .slice A12 n12 c12, .bool t12, .slice B12 m12 d12, .bool s13, .slice A13 n13 c13, .bool t13, .slice B13 m13 d13] : Array Value)[i41 * 4 + 2]? = some (.bool t19) ∧ (#[.bool s11, .slice A11 n11 c11, .bool t11, .slice B11 m11 d11, .bool s12, .slice A12 n12 c12, .bool t12, .slice B12 m12 d12, .bool s13, .slice A13 n13 c13, .bool t13, .slice B13 m13 d13] : Array Value)[i41 * 4 + 3]? = some (.slice B19 m19 d19) ∧ ([.bool sx0, .slice Ax0 nx0 cx0, .bool tx0, .slice Bx0 mx0 dx0, .bool sx1, .slice Ax1 nx1 cx1, .bool tx1, .slice Bx1 mx1 dx1, .bool sx2, .slice Ax2 nx2 cx2, .bool tx2, .slice Bx2 mx2 dx2] : List Value)[i41 * 4]? = some (.bool s20) ∧ ([.bool sx0, .slice Ax0 nx0 cx0, .bool tx0, .slice Bx0 mx0 dx0, .bool sx1, .slice Ax1 nx1 cx1, .bool tx1, .slice Bx1 mx1 dx1, .bool sx2, .slice Ax2 nx2 cx2, .bool tx2, .slice Bx2 mx2 dx2] : List Value)[i41 * 4 + 1]? = some (.slice A20 n20 c20) ∧ ([.bool sx0, .slice Ax0 nx0 cx0, .bool tx0, .slice Bx0 mx0 dx0, .bool sx1, .slice Ax1 nx1 cx1, .bool tx1, .slice Bx1 mx1 dx1, .bool sx2, .slice Ax2 nx2 cx2, .bool tx2, .slice Bx2 mx2 dx2] : List Value)[i41 * 4 + 2]? = some (.bool t20) ∧ ([.bool sx0, .slice Ax0 nx0 cx0, .bool tx0, .slice Bx0 mx0 dx0, .bool sx1, .slice Ax1 nx1 cx1, .bool tx1, .slice Bx1 mx1 dx1, .bool sx2, .slice Ax2 nx2 cx2, .bool tx2, .slice Bx2 mx2 dx2] : List Value)[i41 * 4 + 3]? = some (.slice B20 m20 d20) ∧ RN wl41 s19 A19 n19 c19 p19 ∧ RN wl41 t19 B19 m19 d19 q19 ∧ PF wl41 s20 A20 n20 c20 t20 B20 m20 d20 p19 q19 ∧ Fr p19 q19 := by
        have hcs : i41 = 0 ∨ i41 = 1 ∨ i41 = 2 := by omega
        rcases hcs with rfl | rfl | rfl
        ·exact ⟨_, _, _, _, _, _, _, _, _, _, _, _, _, _, _, _, _, _, rfl, rfl, rfl, rfl, rfl, rfl, rfl, rfl, HR1hr11w7.out, HR1hs11w7.out, HPX0w7.out, HFR11.out.1⟩
        ·exact ⟨_, _, _, _, _, _, _, _, _, _, _, _, _, _, _, _, _, _, rfl, rfl, rfl, rfl, rfl, rfl, rfl, rfl, HR2hr12w7.out, HR2hs12w7.out, HPX1w7.out, HFR12.out.1⟩
        ·exact ⟨_, _, _, _, _, _, _, _, _, _, _, _, _, _, _, _, _, _, rfl, rfl, rfl, rfl, rfl, rfl, rfl, rfl, HR3hr13w7.out, HR3hs13w7.out, HPX2w7.out, HFR13.out.1⟩
       have HS19_0 := hJ h0
       have HS19_1 := hJ h1
       have HS19_2 := hJ h2
       have HS19_3 := hJ h3
       have HS19_4 := hJ h4
       have HS19_5 := hJ h5
       have HS19_6 := hJ h6
       have HS19_7 := hJ h7
       have HS19_8 := hJ h8
       have HS19_9 := hJ h9
       have HS19_10 := hJ h10
       have HS19_11 := hJ h11
       clear h0 h1 h2 h3 h4 h5 h6 h7 h8 h9 h10 h11
       obtain ⟨cu, hcu⟩ := nmz (cmpI (p17 * q19) (p19 * q17))
       obtain ⟨cv, hcv⟩ := nmz (cmpI (p19 * q17) (p17 * q19))
       obtain ⟨cb0, hcb⟩ := nmz ((cu == 0))
       have HU1 := hJ hcu
       have HU2 := hJ hcv
       have HB0 := hJ hcb
       have HNV := hJ (show IntKind.i64.wrap (-cv) = cu by rw [← hcv, ← hcu, cmp_turn (p17 * q19) (p19 * q17), Int.neg_neg]; exact IntWalk.i64_in _ (by have := cmp_bound (p17 * q19) (p19 * q17); omega))
       have HU3 := hJ (show eqF p17 q17 p19 q19 = cb0 by rw [eq_cmp HS17_11.out.1 HS19_11.out.1, hcu, hcb])
       clear hcu hcv hcb
       have HS42 : Hid (∀ w', Below wl41.heap.size wl41 w' → (fun w' : World => w'.cell? ⟨gx, i40 * 4, none⟩ = some (.bool s18) ∧ w'.cell? ⟨gx, i40 * 4 + 1, none⟩ = some (.slice A18 n18 c18) ∧ w'.cell? ⟨gx, i40 * 4 + 2, none⟩ = some (.bool t18) ∧ w'.cell? ⟨gx, i40 * 4 + 3, none⟩ = some (.slice B18 m18 d18) ∧ w'.cell? ⟨gx, i41 * 4, none⟩ = some (.bool s20) ∧ w'.cell? ⟨gx, i41 * 4 + 1, none⟩ = some (.slice A20 n20 c20) ∧ w'.cell? ⟨gx, i41 * 4 + 2, none⟩ = some (.bool t20) ∧ w'.cell? ⟨gx, i41 * 4 + 3, none⟩ = some (.slice B20 m20 d20) ∧ Below wl41.heap.size wl41 w') w') := hJ (fun w' hb => ⟨(OwnR.new HOXw7.out hb).at (i40 * 4) HS17_4.out, (OwnR.new HOXw7.out hb).at (i40 * 4 + 1) HS17_5.out, (OwnR.new HOXw7.out hb).at (i40 * 4 + 2) HS17_6.out, (OwnR.new HOXw7.out hb).at (i40 * 4 + 3) HS17_7.out, (OwnR.new HOXw7.out hb).at (i41 * 4) HS19_4.out, (OwnR.new HOXw7.out hb).at (i41 * 4 + 1) HS19_5.out, (OwnR.new HOXw7.out hb).at (i41 * 4 + 2) HS19_6.out, (OwnR.new HOXw7.out hb).at (i41 * 4 + 3) HS19_7.out, hb⟩)
       have HS17_10w7 := hJ (PF.new HS17_10.out HB41.out)
       go_wp2_with fail
       obtain ⟨v42, hv42⟩ := nmz (World.drew wl41)
       have HX42 := hJ (show Below wl41.heap.size wl41 v42 by rw [← hv42]; exact (Below.refl _ _).drew)
       refine wp_region_held_drew (S := (fun w' : World => w'.cell? ⟨gx, i40 * 4, none⟩ = some (.bool s18) ∧ w'.cell? ⟨gx, i40 * 4 + 1, none⟩ = some (.slice A18 n18 c18) ∧ w'.cell? ⟨gx, i40 * 4 + 2, none⟩ = some (.bool t18) ∧ w'.cell? ⟨gx, i40 * 4 + 3, none⟩ = some (.slice B18 m18 d18) ∧ w'.cell? ⟨gx, i41 * 4, none⟩ = some (.bool s20) ∧ w'.cell? ⟨gx, i41 * 4 + 1, none⟩ = some (.slice A20 n20 c20) ∧ w'.cell? ⟨gx, i41 * 4 + 2, none⟩ = some (.bool t20) ∧ w'.cell? ⟨gx, i41 * 4 + 3, none⟩ = some (.slice B20 m20 d20) ∧ Below wl41.heap.size wl41 w')) (by kernel_rfl) ?_ (fun hHeld => ?_)
       ·rw [hv42]
        exact HS42.out _ HX42.out
       rw [hv42] at hHeld ⊢
       clear hv42
       refine tq 0 ?_
       try simp only [PT]
       refine tq 1 ?_
       try simp only [PT]
       refine tq 2 ?_
       try simp only [PT]
       refine tq 3 ?_
       try simp only [PT]
       refine tq 4 ?_
       try simp only [PT]
       refine tq 5 ?_
       try simp only [PT]
       refine tq 6 ?_
       try simp only [PT]
       refine tq 7 ?_
       try simp only [PT]
       refine wpAnyH_ready (rs := [8]) (by kernel_rfl) (by simp) ?_
       refine .cons rfl (fun K hK => ?_) .nil
       go_simp
       go_at_call 46
       refine (fcompare_any p17 q17 p19 q19 s18 t18 s20 t20 A18 B18 A20 B20 n18 c18 m18 d18 n20 c20 m20 d20 v42 (PF.new HS17_10w7.out HX42.out) (PF.new HS19_10.out HX42.out) HS17_11.out.1.1 HS19_11.out.1.1 HS17_11.out.2.1 HS17_11.out.2.2 HS19_11.out.2.1 HS19_11.out.2.2).mono ?_
       rw [HU1.out]
       rintro e v43 ⟨rfl, hb⟩
       have HB43 := hJ hb
       clear hb
       go_wp2_with fail
       have HX43 := hJ (bt HX42.out HB43.out)
       clear hHeld
       refine hK.out _ _ (HS42.out _ HX43.out) (fun hHeld => ?_)
       clear hK K
       try simp only [PT]
       refine tq 9 ?_
       try simp only [PT]
       refine wpAnyH_done (by kernel_rfl) ?_ _
       clear hHeld
       have HQ4x0w8 := hJ (BX.new HQ4x0w7.out HX43.out)
       have HOXw8 := hJ (OwnR.new HOXw7.out HX43.out)
       have HS44 : Hid (∀ w', Below v43.heap.size v43 w' → (fun w' : World => w'.cell? ⟨w3.heap.size, i40 * 4, none⟩ = some (.bool s17) ∧ w'.cell? ⟨w3.heap.size, i40 * 4 + 1, none⟩ = some (.slice A17 n17 c17) ∧ w'.cell? ⟨w3.heap.size, i40 * 4 + 2, none⟩ = some (.bool t17) ∧ w'.cell? ⟨w3.heap.size, i40 * 4 + 3, none⟩ = some (.slice B17 m17 d17) ∧ w'.cell? ⟨w3.heap.size, i41 * 4, none⟩ = some (.bool s19) ∧ w'.cell? ⟨w3.heap.size, i41 * 4 + 1, none⟩ = some (.slice A19 n19 c19) ∧ w'.cell? ⟨w3.heap.size, i41 * 4 + 2, none⟩ = some (.bool t19) ∧ w'.cell? ⟨w3.heap.size, i41 * 4 + 3, none⟩ = some (.slice B19 m19 d19) ∧ w'.cell? ⟨gx, i41 * 4, none⟩ = some (.bool s20) ∧ w'.cell? ⟨gx, i41 * 4 + 1, none⟩ = some (.slice A20 n20 c20) ∧ w'.cell? ⟨gx, i41 * 4 + 2, none⟩ = some (.bool t20) ∧ w'.cell? ⟨gx, i41 * 4 + 3, none⟩ = some (.slice B20 m20 d20) ∧ w'.cell? ⟨gx, i40 * 4, none⟩ = some (.bool s18) ∧ w'.cell? ⟨gx, i40 * 4 + 1, none⟩ = some (.slice A18 n18 c18) ∧ w'.cell? ⟨gx, i40 * 4 + 2, none⟩ = some (.bool t18) ∧ w'.cell? ⟨gx, i40 * 4 + 3, none⟩ = some (.slice B18 m18 d18) ∧ Below v43.heap.size v43 w') w') := hJ (fun w' hb => ⟨(BX.new HQ4x0w8.out hb).cell (i40 * 4) HS17_0.out, (BX.new HQ4x0w8.out hb).cell (i40 * 4 + 1) HS17_1.out, (BX.new HQ4x0w8.out hb).cell (i40 * 4 + 2) HS17_2.out, (BX.new HQ4x0w8.out hb).cell (i40 * 4 + 3) HS17_3.out, (BX.new HQ4x0w8.out hb).cell (i41 * 4) HS19_0.out, (BX.new HQ4x0w8.out hb).cell (i41 * 4 + 1) HS19_1.out, (BX.new HQ4x0w8.out hb).cell (i41 * 4 + 2) HS19_2.out, (BX.new HQ4x0w8.out hb).cell (i41 * 4 + 3) HS19_3.out, (OwnR.new HOXw8.out hb).at (i41 * 4) HS19_4.out, (OwnR.new HOXw8.out hb).at (i41 * 4 + 1) HS19_5.out, (OwnR.new HOXw8.out hb).at (i41 * 4 + 2) HS19_6.out, (OwnR.new HOXw8.out hb).at (i41 * 4 + 3) HS19_7.out, (OwnR.new HOXw8.out hb).at (i40 * 4) HS17_4.out, (OwnR.new HOXw8.out hb).at (i40 * 4 + 1) HS17_5.out, (OwnR.new HOXw8.out hb).at (i40 * 4 + 2) HS17_6.out, (OwnR.new HOXw8.out hb).at (i40 * 4 + 3) HS17_7.out, hb⟩)
       have HC6_8 := hJ (bt HB41.out HX43.out)
       have HS17_8w8 := hJ (RNo.new HS17_8.out HC6_8.out)
       have HS17_9w8 := hJ (RNo.new HS17_9.out HC6_8.out)
       have HS19_8w8 := hJ (RNo.new HS19_8.out HX43.out)
       have HS19_9w8 := hJ (RNo.new HS19_9.out HX43.out)
       have HS19_10w8 := hJ (PF.new HS19_10.out HX43.out)
       have HS17_10w8 := hJ (PF.new HS17_10w7.out HX43.out)
       go_wp2_with fail
       obtain ⟨v44, hv44⟩ := nmz (World.drew v43)
       have HX44 := hJ (show Below v43.heap.size v43 v44 by rw [← hv44]; exact (Below.refl _ _).drew)
       refine wp_region_held_drew (S := (fun w' : World => w'.cell? ⟨w3.heap.size, i40 * 4, none⟩ = some (.bool s17) ∧ w'.cell? ⟨w3.heap.size, i40 * 4 + 1, none⟩ = some (.slice A17 n17 c17) ∧ w'.cell? ⟨w3.heap.size, i40 * 4 + 2, none⟩ = some (.bool t17) ∧ w'.cell? ⟨w3.heap.size, i40 * 4 + 3, none⟩ = some (.slice B17 m17 d17) ∧ w'.cell? ⟨w3.heap.size, i41 * 4, none⟩ = some (.bool s19) ∧ w'.cell? ⟨w3.heap.size, i41 * 4 + 1, none⟩ = some (.slice A19 n19 c19) ∧ w'.cell? ⟨w3.heap.size, i41 * 4 + 2, none⟩ = some (.bool t19) ∧ w'.cell? ⟨w3.heap.size, i41 * 4 + 3, none⟩ = some (.slice B19 m19 d19) ∧ w'.cell? ⟨gx, i41 * 4, none⟩ = some (.bool s20) ∧ w'.cell? ⟨gx, i41 * 4 + 1, none⟩ = some (.slice A20 n20 c20) ∧ w'.cell? ⟨gx, i41 * 4 + 2, none⟩ = some (.bool t20) ∧ w'.cell? ⟨gx, i41 * 4 + 3, none⟩ = some (.slice B20 m20 d20) ∧ w'.cell? ⟨gx, i40 * 4, none⟩ = some (.bool s18) ∧ w'.cell? ⟨gx, i40 * 4 + 1, none⟩ = some (.slice A18 n18 c18) ∧ w'.cell? ⟨gx, i40 * 4 + 2, none⟩ = some (.bool t18) ∧ w'.cell? ⟨gx, i40 * 4 + 3, none⟩ = some (.slice B18 m18 d18) ∧ Below v43.heap.size v43 w')) (by kernel_rfl) ?_ (fun hHeld => ?_)
       ·rw [hv44]
        exact HS44.out _ HX44.out
       rw [hv44] at hHeld ⊢
       clear hv44
       refine tq 0 ?_
       try simp only [PT]
       refine tq 1 ?_
       try simp only [PT]
       refine tq 2 ?_
       try simp only [PT]
       refine tq 3 ?_
       try simp only [PT]
       refine tq 4 ?_
       try simp only [PT]
       refine tq 5 ?_
       try simp only [PT]
       refine tq 6 ?_
       try simp only [PT]
       refine tq 7 ?_
       try simp only [PT]
       refine tq 8 ?_
       try simp only [PT]
       refine wpAnyH_ready (rs := [9]) (by kernel_rfl) (by simp) ?_
       refine .cons rfl (fun K hK => ?_) .nil
       go_simp
       go_at_call 47
       refine (r4compare_any p17 q17 p19 q19 (32 * limE) s17 A17 n17 c17 t17 B17 m17 d17 s19 A19 n19 c19 t19 B19 m19 d19 v44 (RNo.new HS17_8w8.out HX44.out) (RNo.new HS17_9w8.out HX44.out) (RNo.new HS19_8w8.out HX44.out) (RNo.new HS19_9w8.out HX44.out) (by decide) (fr_rk HS17_11.out) (fr_rk HS19_11.out)).mono ?_
       rw [HU1.out]
       rintro e v45 ⟨rfl, hb⟩
       have HB45 := hJ hb
       clear hb
       go_wp2_with fail
       have HX45 := hJ (bt HX44.out HB45.out)
       clear hHeld
       refine hK.out _ _ (HS44.out _ HX45.out) (fun hHeld => ?_)
       clear hK K
       try simp only [PT]
       refine tq 10 ?_
       try simp only [PT]
       refine tq 11 ?_
       try simp only [PT]
       refine tq 12 ?_
       try simp only [PT]
       refine tq 13 ?_
       try simp only [PT]
       refine tq 14 ?_
       try simp only [PT]
       refine tq 15 ?_
       try simp only [PT]
       refine tq 16 ?_
       try simp only [PT]
       refine tq 17 ?_
       try simp only [PT]
       refine tq 18 ?_
       try simp only [PT]
       refine tq 19 ?_
       try simp only [PT]
       refine tq 20 ?_
       try simp only [PT]
       refine wpAnyH_ready (rs := [21]) (by kernel_rfl) (by simp) ?_
       refine .cons rfl (fun K hK => ?_) .nil
       go_simp
       go_at_call 46
       refine (fcompare_any p19 q19 p17 q17 s20 t20 s18 t18 A20 B20 A18 B18 n20 c20 m20 d20 n18 c18 m18 d18 v45 (PF.new HS19_10w8.out HX45.out) (PF.new HS17_10w8.out HX45.out) HS19_11.out.1.1 HS17_11.out.1.1 HS19_11.out.2.1 HS19_11.out.2.2 HS17_11.out.2.1 HS17_11.out.2.2).mono ?_
       rw [HU2.out]
       rintro e v46 ⟨rfl, hb⟩
       have HB46 := hJ hb
       clear hb
       go_wp2_with fail
       have HX46 := hJ (bt HX45.out HB46.out)
       clear hHeld
       refine hK.out _ _ (HS44.out _ HX46.out) (fun hHeld => ?_)
       clear hK K
       try simp only [PT]
       refine tk 22 (.int .i64 cu) ?_ ?_
       ·intro w hSw
        (try dsimp only at hSw)
        go_simp
        rw [HNV.out]
       try simp only [PT]
       refine tq 23 ?_
       try simp only [PT]
       refine tq 24 ?_
       try simp only [PT]
       refine tq 25 ?_
       try simp only [PT]
       refine tq 26 ?_
       try simp only [PT]
       refine tk 27 (.bool cb0) ?_ ?_
       ·intro w hSw
        (try dsimp only at hSw)
        go_simp
        first | rw [HB0.out] | (have h := HB0.out; simpa using h)
       try simp only [PT]
       refine tq 28 ?_
       try simp only [PT]
       refine tq 29 ?_
       try simp only [PT]
       refine tq 30 ?_
       try simp only [PT]
       refine tq 31 ?_
       try simp only [PT]
       refine tq 32 ?_
       try simp only [PT]
       refine tq 33 ?_
       try simp only [PT]
       refine tq 34 ?_
       try simp only [PT]
       refine tq 35 ?_
       try simp only [PT]
       refine wpAnyH_ready (rs := [36]) (by kernel_rfl) (by simp) ?_
       refine .cons rfl (fun K hK => ?_) .nil
       go_simp
       go_at_call 48
       refine (l4equal_any p17 q17 p19 q19 s18 t18 s20 t20 A18 B18 A20 B20 n18 c18 m18 d18 n20 c20 m20 d20 v46 (PF.new HS17_10w8.out HX46.out) (PF.new HS19_10w8.out HX46.out) HS17_11.out HS19_11.out).mono ?_
       rw [HU3.out]
       rintro e v47 ⟨rfl, hb⟩
       have HB47 := hJ hb
       clear hb
       go_wp2_with fail
       have HX47 := hJ (bt HX46.out HB47.out)
       clear hHeld
       refine hK.out _ _ (HS44.out _ HX47.out) (fun hHeld => ?_)
       clear hK K
       try simp only [PT]
       refine tq 37 ?_
       try simp only [PT]
       refine tq 38 ?_
       try simp only [PT]
       refine wpAnyH_done (by kernel_rfl) ?_ _
       clear hHeld
       have HC6_9 := hJ (bt HC6_8.out HX47.out)
       go_wp2_with fail
       go_roundw
       case rel => exact ⟨i41 + 1, by omega, by go_num, HC6_9.out⟩
       case measure => simp [intOf] <;> omega
      ·(try rw [show ((3 : Nat) : Int) = 3 from rfl])
       have HC5_7 := hJ (bt HB40.out HB41.out)
       go_wp2_with fail
       go_roundw
       case rel => exact ⟨i40 + 1, by omega, by go_num, HC5_7.out⟩
       case measure => simp [intOf] <;> omega
    ·(try rw [show ((3 : Nat) : Int) = 3 from rfl])
     have HOXw6 := hJ (OwnR.new HOX.out HB40.out)
     have HPX0w6 := hJ (PF.new HPX0.out HB40.out)
     have HPX1w6 := hJ (PF.new HPX1.out HB40.out)
     have HPX2w6 := hJ (PF.new HPX2.out HB40.out)
     have HC0_6 := hJ (bt (bt (bt (bt (bt HB1.out HB2.out) HB3.out) HB4.out) HB5.out) HB40.out)
     go_upto_region 18 with fail
     refine wp_mono (order_t18 p11 q11 p12 q12 p13 q13 x4.heap.size gx cpx sx0 Ax0 nx0 cx0 tx0 Bx0 mx0 dx0 sx1 Ax1 nx1 cx1 tx1 Bx1 mx1 dx1 sx2 Ax2 nx2 cx2 tx2 Bx2 mx2 dx2 w wl40 HFR11 HFR12 HFR13 HOXw6 (hJ HPX0w6.out) (hJ HPX1w6.out) (hJ HPX2w6.out) (hJ HC0_6.out) _ (fun a' w' => bodyPost Tryz.prog Tryz.f6 (fun e w' => e = .returned (.bool true) ∧ Below w.heap.size w w') .normal a' w') (by rename_i hKK; exact fun a' w' h => hKK a' w' (wp_mono h (fun e a w h => by cases e <;> exact h)))) (fun e a w h => by cases e <;> exact h)
theorem fracOrder_law (a0 : Option Addr) (len0 cap0 : Nat) (z0 : List Int) (w : World) (w0 : RowI .i64 w a0 len0 cap0 z0) :
  Calls Tryz.prog 6 #[.slice a0 len0 cap0] w fun e w' => e = .returned (.bool true) ∧ Below w.heap.size w w' := by
 obtain ⟨ls, h1, h2, h3, h4⟩ := w0.open_
 exact fracOrder_walk a0 len0 cap0 ls w ⟨h4, by rw [h1]; exact h2, h3⟩
end Go.Proofs.YtbhnaffbgggabaaGreat
