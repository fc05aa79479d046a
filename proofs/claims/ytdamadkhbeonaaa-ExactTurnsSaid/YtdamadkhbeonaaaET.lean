/- The walk of the law ExactTurns. -/
import Derived.Test.YtdamadkhbeonaaaEM3
import Derived.Laws.BytesArg
namespace Go.Proofs.Ytdamadkhbeonaaa
open Go.RowKit
attribute [local go_sem ↓] Go.wp_at_zero Go.wp_at_succ
set_option linter.unusedVariables false
set_option linter.unusedSimpArgs false
set_option maxRecDepth 100000 in
set_option maxHeartbeats 12800000 in
theorem exactTurns_walk (A : Option Addr) (ln c : Nat) (xs : List Int) (hw by0 : Int) (w : World) (hg : Got w (.slice A ln c) xs) (hh : (Lit.int .i64 hw).wf = true) (hb0 : (Lit.int .i64 by0).wf = true) :
  Calls Try.prog 4 #[.slice A ln c, .int .i64 hw, .int .i64 by0] w fun e w' => e = .returned (.bool true) ∧ Below w.heap.size w w' := by
 have HG := hJ hg
 have HHW := hJ hh
 have HBY := hJ hb0
 clear hg hh hb0
 go_enter Try.func4, Try.ntmps4
 go_wp2_with fail
 obtain ⟨i25, hi25, hz25, hs25, hy25⟩ := info_parts (show (Try.prog.info? 25).map (fun i => (i.zero, i.size, i.bytes)) = some (some (.agg #[.int .i64 0, .int .i64 0]), 2, 16) by kernel_rfl)
 have HT25 := hJ (And.intro hi25 (And.intro hz25 (And.intro hs25 hy25)))
 clear hi25 hz25 hs25 hy25
 go_loopw [8, 7] (fun tv tx wr => ∃ i : Nat, tv = .int .i64 (i : Int) ∧ Below w.heap.size w wr ∧ ((i = 0 ∧ tx = .slice none 0 0) ∨ (i = 1 ∧ ∃ (gx cpx : Nat) (px0_1 py0_1 : Int), tx = .slice (some ⟨gx, 0, none⟩) 1 cpx ∧ Hid (OwnR noU wr w.heap.size 25 2 (.slice (some ⟨gx, 0, none⟩) 1 cpx) 1 [.int .i64 px0_1, .int .i64 py0_1]) ∧ Hid (w.heap.size ≤ gx) ∧ Hid (gx < wr.heap.size) ∧ Hid (Di px0_1 py0_1)) ∨ (i = 2 ∧ ∃ (gx cpx : Nat) (px0_1 py0_1 px1_1 py1_1 : Int), tx = .slice (some ⟨gx, 0, none⟩) 2 cpx ∧ Hid (OwnR noU wr w.heap.size 25 2 (.slice (some ⟨gx, 0, none⟩) 2 cpx) 2 [.int .i64 px0_1, .int .i64 py0_1, .int .i64 px1_1, .int .i64 py1_1]) ∧ Hid (w.heap.size ≤ gx) ∧ Hid (gx < wr.heap.size) ∧ Hid (Di px0_1 py0_1) ∧ Hid (Di px1_1 py1_1)) ∨ (i = 3 ∧ ∃ (gx cpx : Nat) (px0_1 py0_1 px1_1 py1_1 px2_1 py2_1 : Int), tx = .slice (some ⟨gx, 0, none⟩) 3 cpx ∧ Hid (OwnR noU wr w.heap.size 25 2 (.slice (some ⟨gx, 0, none⟩) 3 cpx) 3 [.int .i64 px0_1, .int .i64 py0_1, .int .i64 px1_1, .int .i64 py1_1, .int .i64 px2_1, .int .i64 py2_1]) ∧ Hid (w.heap.size ≤ gx) ∧ Hid (gx < wr.heap.size) ∧ Hid (Di px0_1 py0_1) ∧ Hid (Di px1_1 py1_1) ∧ Hid (Di px2_1 py2_1)) ∨ (i = 4 ∧ ∃ (gx cpx : Nat) (px0_1 py0_1 px1_1 py1_1 px2_1 py2_1 px3_1 py3_1 : Int), tx = .slice (some ⟨gx, 0, none⟩) 4 cpx ∧ Hid (OwnR noU wr w.heap.size 25 2 (.slice (some ⟨gx, 0, none⟩) 4 cpx) 4 [.int .i64 px0_1, .int .i64 py0_1, .int .i64 px1_1, .int .i64 py1_1, .int .i64 px2_1, .int .i64 py2_1, .int .i64 px3_1, .int .i64 py3_1]) ∧ Hid (w.heap.size ≤ gx) ∧ Hid (gx < wr.heap.size) ∧ Hid (Di px0_1 py0_1) ∧ Hid (Di px1_1 py1_1) ∧ Hid (Di px2_1 py2_1) ∧ Hid (Di px3_1 py3_1)))) (fun tv _ _ => 4 - (intOf tv).toNat)
 case atStart => exact ⟨0, rfl, Below.refl _ _, .inl ⟨rfl, rfl⟩⟩
 case round =>
  obtain ⟨i1, rfl, hbel, hdis⟩ := hrel
  obtain ⟨wl1, rfl⟩ : ∃ W : World, W = wr := ⟨_, rfl⟩
  have HB1 := hJ hbel
  clear hbel
  rcases hdis with ⟨rfl, rfl⟩ | ⟨rfl, gx, cpx, px0_1, py0_1, rfl, HOX, HGX, HLX, HPR0⟩ | ⟨rfl, gx, cpx, px0_1, py0_1, px1_1, py1_1, rfl, HOX, HGX, HLX, HPR0, HPR1⟩ | ⟨rfl, gx, cpx, px0_1, py0_1, px1_1, py1_1, px2_1, py2_1, rfl, HOX, HGX, HLX, HPR0, HPR1, HPR2⟩ | ⟨rfl, gx, cpx, px0_1, py0_1, px1_1, py1_1, px2_1, py2_1, px3_1, py3_1, rfl, HOX, HGX, HLX, HPR0, HPR1, HPR2, HPR3⟩
  ·(try rw [show ((0 : Nat) : Int) = 0 from rfl])
   have HGw1 := hJ (Got.new HG.out HB1.out)
   go_wp2_with fail
   refine (pickz_any (.slice A ln c) xs 0 1048576 wl1 HGw1.out (by decide) (by decide) (by decide)).mono ?_
   rintro e w2 ⟨⟨x11, rfl, hzx11⟩, rfl⟩
   have HPKx11 := hJ hzx11
   clear hzx11
   go_wp2_with fail
   refine (dir_any x11 wl1 (HPKx11.out.2)).mono ?_
   rintro e w3 ⟨x12, y12, rfl, hd12, hb⟩
   have HB3 := hJ hb
   clear hb
   have HDI12 := hJ hd12
   clear hd12
   obtain ⟨x4, hx4⟩ := nmz (w3.alloc (.cells #[.int .i64 x12, .int .i64 y12] 25))
   have HB4 := hJ (show Below w3.heap.size w3 x4 by rw [← hx4]; exact ((Below.refl _ _).alloc (Nat.le_refl _) _))
   have HQ4x0 := hJ (show BX 25 x4 w3.heap.size #[.int .i64 x12, .int .i64 y12] by rw [← hx4]; exact (BX.at rfl))
   have HG4x0 := hJ (show w3.heap.size ≤ w3.heap.size by omega)
   have HL4x0 := hJ (show w3.heap.size < x4.heap.size from HQ4x0.out.lt)
   have HO5 := hJ (OwnR.nil noU x4 w.heap.size 25 2)
   have HC0_3 := hJ (bt (bt HB1.out HB3.out) HB4.out)
   go_wp2_with (at_builtin; refine wpList_append_okv noU rfl _ _ 23 rfl w.heap.size 25 i25 _ 2 16 Try.underlying23 HT25.out.1 HT25.out.2.1 HT25.out.2.2.1 HT25.out.2.2.2 rfl rfl (by decide) (.slice none 0 0) 0 [] rfl HO5.out ⟨w3.heap.size, 0, none⟩ 1 1 [.int .i64 x12, .int .i64 y12] rfl rfl (BX.news HQ4x0.out) (List.all_eq_true (p := Value.oneCell')|>.1 rfl) rfl (by unfold maxLen; omega) (by omega) (HC0_3.out).size (by decide) ?_; intro va wa hown hgrow; refine stop_here (fun q HSTP => ?_))
   clear hx4
   rw [HSTP.out]
   clear HSTP q
   have hown : OwnR noU wa w.heap.size 25 2 va 1 [.int .i64 x12, .int .i64 y12] := hown
   obtain ⟨ga6, cp6, rfl, hg1, hg2, hcap, _⟩ := hown.row (by decide)
   obtain ⟨w6, rfl⟩ : ∃ W, W = wa := ⟨_, rfl⟩
   have HO6 := hJ (show OwnR noU w6 w.heap.size 25 2 (.slice (some ⟨ga6, 0, none⟩) 1 cp6) 1 [.int .i64 x12, .int .i64 y12] from hown)
   have HG6 := hJ hg1
   have HL6 := hJ hg2
   have HW6 := hJ hgrow
   have HN6 := hJ (show 1 ≤ cp6 from hcap)
   clear hown hg1 hg2 hgrow hcap
   have HC0_4 := hJ (show Below w.heap.size w w6 from Grew.below HC0_3.out HW6.out HO5.out (Nat.le_refl _) (HC0_3.out).size)
   have HLT7 := hJ HL6.out
   go_wp2_with fail
   go_roundw
   case rel => exact ⟨1, by go_num, HC0_4.out, .inr (.inl ⟨rfl, ga6, cp6, x12, y12, rfl, HO6, HG6, HLT7, (hJ HDI12.out)⟩)⟩
   case measure => simp [intOf] <;> omega
  ·(try rw [show ((1 : Nat) : Int) = 1 from rfl])
   have HGw1 := hJ (Got.new HG.out HB1.out)
   go_wp2_with fail
   refine (pickz_any (.slice A ln c) xs 1 1048576 wl1 HGw1.out (by decide) (by decide) (by decide)).mono ?_
   rintro e w8 ⟨⟨x13, rfl, hzx13⟩, rfl⟩
   have HPKx13 := hJ hzx13
   clear hzx13
   go_wp2_with fail
   refine (dir_any x13 wl1 (HPKx13.out.2)).mono ?_
   rintro e w9 ⟨x14, y14, rfl, hd14, hb⟩
   have HB9 := hJ hb
   clear hb
   have HDI14 := hJ hd14
   clear hd14
   obtain ⟨x10, hx10⟩ := nmz (w9.alloc (.cells #[.int .i64 x14, .int .i64 y14] 25))
   have HB10 := hJ (show Below w9.heap.size w9 x10 by rw [← hx10]; exact ((Below.refl _ _).alloc (Nat.le_refl _) _))
   have HQ10x0 := hJ (show BX 25 x10 w9.heap.size #[.int .i64 x14, .int .i64 y14] by rw [← hx10]; exact (BX.at rfl))
   have HG10x0 := hJ (show w9.heap.size ≤ w9.heap.size by omega)
   have HL10x0 := hJ (show w9.heap.size < x10.heap.size from HQ10x0.out.lt)
   have HC1_3 := hJ (bt HB9.out HB10.out)
   have HOXw3 := hJ (OwnR.new HOX.out HC1_3.out)
   have HC0_3 := hJ (bt (bt HB1.out HB9.out) HB10.out)
   go_wp2_with (at_builtin; refine wpList_append_okv noU rfl _ _ 23 rfl w.heap.size 25 i25 _ 2 16 Try.underlying23 HT25.out.1 HT25.out.2.1 HT25.out.2.2.1 HT25.out.2.2.2 rfl rfl (by decide) (.slice (some ⟨gx, 0, none⟩) 1 cpx) 1 [.int .i64 px0_1, .int .i64 py0_1] rfl HOXw3.out ⟨w9.heap.size, 0, none⟩ 1 1 [.int .i64 x14, .int .i64 y14] rfl rfl (BX.news HQ10x0.out) (List.all_eq_true (p := Value.oneCell')|>.1 rfl) rfl (by unfold maxLen; omega) (by omega) (HC0_3.out).size (by decide) ?_; intro va wa hown hgrow; refine stop_here (fun q HSTP => ?_))
   clear hx10
   rw [HSTP.out]
   clear HSTP q
   have hown : OwnR noU wa w.heap.size 25 2 va 2 [.int .i64 px0_1, .int .i64 py0_1, .int .i64 x14, .int .i64 y14] := hown
   obtain ⟨ga11, cp11, rfl, hg1, hg2, hcap, _⟩ := hown.row (by decide)
   obtain ⟨w11, rfl⟩ : ∃ W, W = wa := ⟨_, rfl⟩
   have HO11 := hJ (show OwnR noU w11 w.heap.size 25 2 (.slice (some ⟨ga11, 0, none⟩) 2 cp11) 2 [.int .i64 px0_1, .int .i64 py0_1, .int .i64 x14, .int .i64 y14] from hown)
   have HG11 := hJ hg1
   have HL11 := hJ hg2
   have HW11 := hJ hgrow
   have HN11 := hJ (show 2 ≤ cp11 from hcap)
   clear hown hg1 hg2 hgrow hcap
   have HC0_4 := hJ (show Below w.heap.size w w11 from Grew.below HC0_3.out HW11.out HOXw3.out (Nat.le_refl _) (HC0_3.out).size)
   have HLT12 := hJ HL11.out
   go_wp2_with fail
   go_roundw
   case rel => exact ⟨2, by go_num, HC0_4.out, .inr (.inr (.inl ⟨rfl, ga11, cp11, px0_1, py0_1, x14, y14, rfl, HO11, HG11, HLT12, HPR0, (hJ HDI14.out)⟩))⟩
   case measure => simp [intOf] <;> omega
  ·(try rw [show ((2 : Nat) : Int) = 2 from rfl])
   have HGw1 := hJ (Got.new HG.out HB1.out)
   go_wp2_with fail
   refine (pickz_any (.slice A ln c) xs 2 1048576 wl1 HGw1.out (by decide) (by decide) (by decide)).mono ?_
   rintro e w13 ⟨⟨x15, rfl, hzx15⟩, rfl⟩
   have HPKx15 := hJ hzx15
   clear hzx15
   go_wp2_with fail
   refine (dir_any x15 wl1 (HPKx15.out.2)).mono ?_
   rintro e w14 ⟨x16, y16, rfl, hd16, hb⟩
   have HB14 := hJ hb
   clear hb
   have HDI16 := hJ hd16
   clear hd16
   obtain ⟨x15, hx15⟩ := nmz (w14.alloc (.cells #[.int .i64 x16, .int .i64 y16] 25))
   have HB15 := hJ (show Below w14.heap.size w14 x15 by rw [← hx15]; exact ((Below.refl _ _).alloc (Nat.le_refl _) _))
   have HQ15x0 := hJ (show BX 25 x15 w14.heap.size #[.int .i64 x16, .int .i64 y16] by rw [← hx15]; exact (BX.at rfl))
   have HG15x0 := hJ (show w14.heap.size ≤ w14.heap.size by omega)
   have HL15x0 := hJ (show w14.heap.size < x15.heap.size from HQ15x0.out.lt)
   have HC1_3 := hJ (bt HB14.out HB15.out)
   have HOXw3 := hJ (OwnR.new HOX.out HC1_3.out)
   have HC0_3 := hJ (bt (bt HB1.out HB14.out) HB15.out)
   go_wp2_with (at_builtin; refine wpList_append_okv noU rfl _ _ 23 rfl w.heap.size 25 i25 _ 2 16 Try.underlying23 HT25.out.1 HT25.out.2.1 HT25.out.2.2.1 HT25.out.2.2.2 rfl rfl (by decide) (.slice (some ⟨gx, 0, none⟩) 2 cpx) 2 [.int .i64 px0_1, .int .i64 py0_1, .int .i64 px1_1, .int .i64 py1_1] rfl HOXw3.out ⟨w14.heap.size, 0, none⟩ 1 1 [.int .i64 x16, .int .i64 y16] rfl rfl (BX.news HQ15x0.out) (List.all_eq_true (p := Value.oneCell')|>.1 rfl) rfl (by unfold maxLen; omega) (by omega) (HC0_3.out).size (by decide) ?_; intro va wa hown hgrow; refine stop_here (fun q HSTP => ?_))
   clear hx15
   rw [HSTP.out]
   clear HSTP q
   have hown : OwnR noU wa w.heap.size 25 2 va 3 [.int .i64 px0_1, .int .i64 py0_1, .int .i64 px1_1, .int .i64 py1_1, .int .i64 x16, .int .i64 y16] := hown
   obtain ⟨ga16, cp16, rfl, hg1, hg2, hcap, _⟩ := hown.row (by decide)
   obtain ⟨w16, rfl⟩ : ∃ W, W = wa := ⟨_, rfl⟩
   have HO16 := hJ (show OwnR noU w16 w.heap.size 25 2 (.slice (some ⟨ga16, 0, none⟩) 3 cp16) 3 [.int .i64 px0_1, .int .i64 py0_1, .int .i64 px1_1, .int .i64 py1_1, .int .i64 x16, .int .i64 y16] from hown)
   have HG16 := hJ hg1
   have HL16 := hJ hg2
   have HW16 := hJ hgrow
   have HN16 := hJ (show 3 ≤ cp16 from hcap)
   clear hown hg1 hg2 hgrow hcap
   have HC0_4 := hJ (show Below w.heap.size w w16 from Grew.below HC0_3.out HW16.out HOXw3.out (Nat.le_refl _) (HC0_3.out).size)
   have HLT17 := hJ HL16.out
   go_wp2_with fail
   go_roundw
   case rel => exact ⟨3, by go_num, HC0_4.out, .inr (.inr (.inr (.inl ⟨rfl, ga16, cp16, px0_1, py0_1, px1_1, py1_1, x16, y16, rfl, HO16, HG16, HLT17, HPR0, HPR1, (hJ HDI16.out)⟩)))⟩
   case measure => simp [intOf] <;> omega
  ·(try rw [show ((3 : Nat) : Int) = 3 from rfl])
   have HGw1 := hJ (Got.new HG.out HB1.out)
   go_wp2_with fail
   refine (pickz_any (.slice A ln c) xs 3 1048576 wl1 HGw1.out (by decide) (by decide) (by decide)).mono ?_
   rintro e w18 ⟨⟨x17, rfl, hzx17⟩, rfl⟩
   have HPKx17 := hJ hzx17
   clear hzx17
   go_wp2_with fail
   refine (dir_any x17 wl1 (HPKx17.out.2)).mono ?_
   rintro e w19 ⟨x18, y18, rfl, hd18, hb⟩
   have HB19 := hJ hb
   clear hb
   have HDI18 := hJ hd18
   clear hd18
   obtain ⟨x20, hx20⟩ := nmz (w19.alloc (.cells #[.int .i64 x18, .int .i64 y18] 25))
   have HB20 := hJ (show Below w19.heap.size w19 x20 by rw [← hx20]; exact ((Below.refl _ _).alloc (Nat.le_refl _) _))
   have HQ20x0 := hJ (show BX 25 x20 w19.heap.size #[.int .i64 x18, .int .i64 y18] by rw [← hx20]; exact (BX.at rfl))
   have HG20x0 := hJ (show w19.heap.size ≤ w19.heap.size by omega)
   have HL20x0 := hJ (show w19.heap.size < x20.heap.size from HQ20x0.out.lt)
   have HC1_3 := hJ (bt HB19.out HB20.out)
   have HOXw3 := hJ (OwnR.new HOX.out HC1_3.out)
   have HC0_3 := hJ (bt (bt HB1.out HB19.out) HB20.out)
   go_wp2_with (at_builtin; refine wpList_append_okv noU rfl _ _ 23 rfl w.heap.size 25 i25 _ 2 16 Try.underlying23 HT25.out.1 HT25.out.2.1 HT25.out.2.2.1 HT25.out.2.2.2 rfl rfl (by decide) (.slice (some ⟨gx, 0, none⟩) 3 cpx) 3 [.int .i64 px0_1, .int .i64 py0_1, .int .i64 px1_1, .int .i64 py1_1, .int .i64 px2_1, .int .i64 py2_1] rfl HOXw3.out ⟨w19.heap.size, 0, none⟩ 1 1 [.int .i64 x18, .int .i64 y18] rfl rfl (BX.news HQ20x0.out) (List.all_eq_true (p := Value.oneCell')|>.1 rfl) rfl (by unfold maxLen; omega) (by omega) (HC0_3.out).size (by decide) ?_; intro va wa hown hgrow; refine stop_here (fun q HSTP => ?_))
   clear hx20
   rw [HSTP.out]
   clear HSTP q
   have hown : OwnR noU wa w.heap.size 25 2 va 4 [.int .i64 px0_1, .int .i64 py0_1, .int .i64 px1_1, .int .i64 py1_1, .int .i64 px2_1, .int .i64 py2_1, .int .i64 x18, .int .i64 y18] := hown
   obtain ⟨ga21, cp21, rfl, hg1, hg2, hcap, _⟩ := hown.row (by decide)
   obtain ⟨w21, rfl⟩ : ∃ W, W = wa := ⟨_, rfl⟩
   have HO21 := hJ (show OwnR noU w21 w.heap.size 25 2 (.slice (some ⟨ga21, 0, none⟩) 4 cp21) 4 [.int .i64 px0_1, .int .i64 py0_1, .int .i64 px1_1, .int .i64 py1_1, .int .i64 px2_1, .int .i64 py2_1, .int .i64 x18, .int .i64 y18] from hown)
   have HG21 := hJ hg1
   have HL21 := hJ hg2
   have HW21 := hJ hgrow
   have HN21 := hJ (show 4 ≤ cp21 from hcap)
   clear hown hg1 hg2 hgrow hcap
   have HC0_4 := hJ (show Below w.heap.size w w21 from Grew.below HC0_3.out HW21.out HOXw3.out (Nat.le_refl _) (HC0_3.out).size)
   have HLT22 := hJ HL21.out
   go_wp2_with fail
   go_roundw
   case rel => exact ⟨4, by go_num, HC0_4.out, .inr (.inr (.inr (.inr (⟨rfl, ga21, cp21, px0_1, py0_1, px1_1, py1_1, px2_1, py2_1, x18, y18, rfl, HO21, HG21, HLT22, HPR0, HPR1, HPR2, (hJ HDI18.out)⟩))))⟩
   case measure => simp [intOf] <;> omega
  ·(try rw [show ((4 : Nat) : Int) = 4 from rfl])
   have cl23 := HOX.out.at 0 rfl
   have cl24 := HOX.out.at 1 rfl
   go_wp2_with fail
   clear cl23 cl24
   refine (bent_any px0_1 py0_1 hw by0 wl1 (di_i6 HPR0.out).1 (di_i6 HPR0.out).2 HHW.out HBY.out).mono ?_
   rintro e w25 ⟨x19, y19, rfl, hx19, hy19, hb⟩
   have HB25 := hJ hb
   clear hb
   have HIX19 := hJ (And.intro hx19 hy19)
   clear hx19 hy19
   obtain ⟨x26, hx26⟩ := nmz (w25.alloc (.cells #[.int .i64 x19, .int .i64 y19, .int .i64 0, .int .i64 0] 25))
   have HB26 := hJ (show Below w25.heap.size w25 x26 by rw [← hx26]; exact ((Below.refl _ _).alloc (Nat.le_refl _) _))
   have HQ26x0 := hJ (show BX 25 x26 w25.heap.size #[.int .i64 x19, .int .i64 y19, .int .i64 0, .int .i64 0] by rw [← hx26]; exact (BX.at rfl))
   have HG26x0 := hJ (show w25.heap.size ≤ w25.heap.size by omega)
   have HL26x0 := hJ (show w25.heap.size < x26.heap.size from HQ26x0.out.lt)
   go_wp2_with fail
   clear hx26
   go_loopw [10] (fun tv wr => ∃ i : Nat, i ≤ 2 ∧ tv = .int .i64 (i : Int) ∧ Below x26.heap.size x26 wr) (fun tv _ => 2 - (intOf tv).toNat)
   case atStart => exact ⟨0, by omega, rfl, Below.refl _ _⟩
   case round =>
    obtain ⟨i27, hi, rfl, hbel⟩ := hrel
    obtain ⟨wl27, rfl⟩ : ∃ W : World, W = wr := ⟨_, rfl⟩
    have HB27 := hJ hbel
    clear hbel
    have hcs : i27 = 0 ∨ i27 = 1 ∨ i27 = 2 := by omega
    clear hi
    rcases hcs with rfl | rfl | rfl
    ·(try rw [show ((0 : Nat) : Int) = 0 from rfl])
     obtain ⟨E, hE⟩ := nmz (diE x19 y19)
     have HE := hJ hE
     clear hE
     by_cases hE0 : E = 0
     ·subst hE0
      have HC1_4 := hJ (bt (bt HB25.out HB26.out) HB27.out)
      have HOXw4 := hJ (OwnR.new HOX.out HC1_4.out)
      have HQ26x0w4 := hJ (BX.new HQ26x0.out HB27.out)
      have HS28 : Hid (∀ w', Below wl27.heap.size wl27 w' → (fun w' : World => w'.cell? ⟨gx, 2, none⟩ = some (.int .i64 px1_1) ∧ w'.cell? ⟨gx, 3, none⟩ = some (.int .i64 py1_1) ∧ w'.cell? ⟨w25.heap.size, 0, none⟩ = some (.int .i64 x19) ∧ w'.cell? ⟨w25.heap.size, 1, none⟩ = some (.int .i64 y19) ∧ Below wl27.heap.size wl27 w') w') := hJ (fun w' hb => ⟨(OwnR.new HOXw4.out hb).at 2 rfl, (OwnR.new HOXw4.out hb).at 3 rfl, (BX.new HQ26x0w4.out hb).cell 0 rfl, (BX.new HQ26x0w4.out hb).cell 1 rfl, hb⟩)
      go_wp2_with fail
      obtain ⟨v28, hv28⟩ := nmz (World.drew wl27)
      have HX28 := hJ (show Below wl27.heap.size wl27 v28 by rw [← hv28]; exact (Below.refl _ _).drew)
      refine wp_region_held_drew (S := (fun w' : World => w'.cell? ⟨gx, 2, none⟩ = some (.int .i64 px1_1) ∧ w'.cell? ⟨gx, 3, none⟩ = some (.int .i64 py1_1) ∧ w'.cell? ⟨w25.heap.size, 0, none⟩ = some (.int .i64 x19) ∧ w'.cell? ⟨w25.heap.size, 1, none⟩ = some (.int .i64 y19) ∧ Below wl27.heap.size wl27 w')) (by kernel_rfl) ?_ (fun hHeld => ?_)
      ·rw [hv28]
       exact HS28.out _ HX28.out
      rw [hv28] at hHeld ⊢
      clear hv28
      refine tq 0 ?_
      try simp only [PT]
      refine tq 1 ?_
      try simp only [PT]
      refine tq 2 ?_
      try simp only [PT]
      refine tq 3 ?_
      try simp only [PT]
      refine tq 4 ?_
      try simp only [PT]
      refine tq 5 ?_
      try simp only [PT]
      refine tq 6 ?_
      try simp only [PT]
      refine wpAnyH_ready (rs := [7]) (by kernel_rfl) (by simp) ?_
      refine .cons rfl (fun K hK => ?_) .nil
      go_simp
      go_at_call 15
      refine (turn_any px1_1 py1_1 x19 y19 v28).mono ?_
      rw [tu_e1 HPR1.out, HE.out]
      rintro e v29 ⟨rfl, hb⟩
      have HB29 := hJ hb
      clear hb
      go_wp2_with fail
      have HX29 := hJ (bt HX28.out HB29.out)
      clear hHeld
      refine hK.out _ _ (HS28.out _ HX29.out) (fun hHeld => ?_)
      clear hK K
      try simp only [PT]
      refine tq 8 ?_
      try simp only [PT]
      refine tq 9 ?_
      try simp only [PT]
      refine tq 10 ?_
      try simp only [PT]
      refine tq 11 ?_
      try simp only [PT]
      refine tq 12 ?_
      try simp only [PT]
      refine wpAnyH_done (by kernel_rfl) ?_ _
      clear hHeld
      have HQ26x0w5 := hJ (BX.new HQ26x0w4.out HX29.out)
      obtain ⟨cl30, cl31⟩ := HQ26x0w5.out.c2 0 1 rfl rfl
      go_wp2_with fail
      clear cl30 cl31
      refine (turn_any x19 y19 0 0 v29).mono ?_
      rw [tu_e2, HE.out, if_pos rfl]
      rintro e w32 ⟨rfl, hb⟩
      have HB32 := hJ hb
      clear hb
      have HC4_6 := hJ (bt HX29.out HB32.out)
      have HOXw6 := hJ (OwnR.new HOXw4.out HC4_6.out)
      have HQ26x0w6 := hJ (BX.new HQ26x0w5.out HB32.out)
      have HS33 : Hid (∀ w', Below w32.heap.size w32 w' → (fun w' : World => w'.cell? ⟨gx, 2, none⟩ = some (.int .i64 px1_1) ∧ w'.cell? ⟨gx, 3, none⟩ = some (.int .i64 py1_1) ∧ w'.cell? ⟨gx, 4, none⟩ = some (.int .i64 px2_1) ∧ w'.cell? ⟨gx, 5, none⟩ = some (.int .i64 py2_1) ∧ w'.cell? ⟨w25.heap.size, 0, none⟩ = some (.int .i64 x19) ∧ w'.cell? ⟨w25.heap.size, 1, none⟩ = some (.int .i64 y19) ∧ Below w32.heap.size w32 w') w') := hJ (fun w' hb => ⟨(OwnR.new HOXw6.out hb).at 2 rfl, (OwnR.new HOXw6.out hb).at 3 rfl, (OwnR.new HOXw6.out hb).at 4 rfl, (OwnR.new HOXw6.out hb).at 5 rfl, (BX.new HQ26x0w6.out hb).cell 0 rfl, (BX.new HQ26x0w6.out hb).cell 1 rfl, hb⟩)
      go_wp2_with fail
      obtain ⟨v33, hv33⟩ := nmz (World.drew w32)
      have HX33 := hJ (show Below w32.heap.size w32 v33 by rw [← hv33]; exact (Below.refl _ _).drew)
      refine wp_region_held_drew (S := (fun w' : World => w'.cell? ⟨gx, 2, none⟩ = some (.int .i64 px1_1) ∧ w'.cell? ⟨gx, 3, none⟩ = some (.int .i64 py1_1) ∧ w'.cell? ⟨gx, 4, none⟩ = some (.int .i64 px2_1) ∧ w'.cell? ⟨gx, 5, none⟩ = some (.int .i64 py2_1) ∧ w'.cell? ⟨w25.heap.size, 0, none⟩ = some (.int .i64 x19) ∧ w'.cell? ⟨w25.heap.size, 1, none⟩ = some (.int .i64 y19) ∧ Below w32.heap.size w32 w')) (by kernel_rfl) ?_ (fun hHeld => ?_)
      ·rw [hv33]
       exact HS33.out _ HX33.out
      rw [hv33] at hHeld ⊢
      clear hv33
      refine tq 0 ?_
      try simp only [PT]
      refine tq 1 ?_
      try simp only [PT]
      refine tq 2 ?_
      try simp only [PT]
      refine tq 3 ?_
      try simp only [PT]
      refine tq 4 ?_
      try simp only [PT]
      refine tq 5 ?_
      try simp only [PT]
      refine tq 6 ?_
      try simp only [PT]
      refine tq 7 ?_
      try simp only [PT]
      refine tq 8 ?_
      try simp only [PT]
      refine tq 9 ?_
      try simp only [PT]
      refine wpAnyH_ready (rs := [10]) (by kernel_rfl) (by simp) ?_
      refine .cons rfl (fun K hK => ?_) .nil
      go_simp
      go_at_call 16
      refine (sector_any px1_1 py1_1 px2_1 py2_1 x19 y19 v33).mono ?_
      rw [se_e HPR1.out HPR2.out, HE.out]
      rintro e v34 ⟨rfl, hb⟩
      have HB34 := hJ hb
      clear hb
      go_wp2_with fail
      have HX34 := hJ (bt HX33.out HB34.out)
      clear hHeld
      refine hK.out _ _ (HS33.out _ HX34.out) (fun hHeld => ?_)
      clear hK K
      try simp only [PT]
      refine tq 11 ?_
      try simp only [PT]
      refine tq 12 ?_
      try simp only [PT]
      refine tq 13 ?_
      try simp only [PT]
      refine tq 14 ?_
      try simp only [PT]
      refine tq 15 ?_
      try simp only [PT]
      refine wpAnyH_done (by kernel_rfl) ?_ _
      clear hHeld
      have HQ26x0w7 := hJ (BX.new HQ26x0w6.out HX34.out)
      obtain ⟨cl35, cl36⟩ := HQ26x0w7.out.c2 0 1 rfl rfl
      go_wp2_with fail
      clear cl35 cl36
      refine (rdir_any x19 y19 v34).mono ?_
      rw [HE.out]
      rintro e w37 ⟨rfl, hb⟩
      have HB37 := hJ hb
      clear hb
      have HC3_8 := hJ (bt (bt (bt (bt HB27.out HX29.out) HB32.out) HX34.out) HB37.out)
      go_wp2_with fail
      go_roundw
      case rel => exact ⟨0 + 1, by omega, by go_num, HC3_8.out⟩
      case measure => simp [intOf] <;> omega
     ·have hEz : (E == 0) = false := by simp [hE0]
      have HN0 := hJ hE0
      clear hE0
      have HC1_4 := hJ (bt (bt HB25.out HB26.out) HB27.out)
      have HOXw4 := hJ (OwnR.new HOX.out HC1_4.out)
      have HQ26x0w4 := hJ (BX.new HQ26x0.out HB27.out)
      have HS38 : Hid (∀ w', Below wl27.heap.size wl27 w' → (fun w' : World => w'.cell? ⟨gx, 2, none⟩ = some (.int .i64 px1_1) ∧ w'.cell? ⟨gx, 3, none⟩ = some (.int .i64 py1_1) ∧ w'.cell? ⟨w25.heap.size, 0, none⟩ = some (.int .i64 x19) ∧ w'.cell? ⟨w25.heap.size, 1, none⟩ = some (.int .i64 y19) ∧ Below wl27.heap.size wl27 w') w') := hJ (fun w' hb => ⟨(OwnR.new HOXw4.out hb).at 2 rfl, (OwnR.new HOXw4.out hb).at 3 rfl, (BX.new HQ26x0w4.out hb).cell 0 rfl, (BX.new HQ26x0w4.out hb).cell 1 rfl, hb⟩)
      go_wp2_with fail
      obtain ⟨v38, hv38⟩ := nmz (World.drew wl27)
      have HX38 := hJ (show Below wl27.heap.size wl27 v38 by rw [← hv38]; exact (Below.refl _ _).drew)
      refine wp_region_held_drew (S := (fun w' : World => w'.cell? ⟨gx, 2, none⟩ = some (.int .i64 px1_1) ∧ w'.cell? ⟨gx, 3, none⟩ = some (.int .i64 py1_1) ∧ w'.cell? ⟨w25.heap.size, 0, none⟩ = some (.int .i64 x19) ∧ w'.cell? ⟨w25.heap.size, 1, none⟩ = some (.int .i64 y19) ∧ Below wl27.heap.size wl27 w')) (by kernel_rfl) ?_ (fun hHeld => ?_)
      ·rw [hv38]
       exact HS38.out _ HX38.out
      rw [hv38] at hHeld ⊢
      clear hv38
      refine tq 0 ?_
      try simp only [PT]
      refine tq 1 ?_
      try simp only [PT]
      refine tq 2 ?_
      try simp only [PT]
      refine tq 3 ?_
      try simp only [PT]
      refine tq 4 ?_
      try simp only [PT]
      refine tq 5 ?_
      try simp only [PT]
      refine tq 6 ?_
      try simp only [PT]
      refine wpAnyH_ready (rs := [7]) (by kernel_rfl) (by simp) ?_
      refine .cons rfl (fun K hK => ?_) .nil
      go_simp
      go_at_call 15
      refine (turn_any px1_1 py1_1 x19 y19 v38).mono ?_
      rw [tu_e1 HPR1.out, HE.out]
      rintro e v39 ⟨rfl, hb⟩
      have HB39 := hJ hb
      clear hb
      go_wp2_with fail
      have HX39 := hJ (bt HX38.out HB39.out)
      clear hHeld
      refine hK.out _ _ (HS38.out _ HX39.out) (fun hHeld => ?_)
      clear hK K
      try simp only [PT]
      refine tq 8 ?_
      try simp only [PT]
      refine tq 9 ?_
      try simp only [PT]
      refine tq 10 ?_
      try simp only [PT]
      refine tq 11 ?_
      try simp only [PT]
      refine tq 12 ?_
      try simp only [PT]
      refine wpAnyH_done (by kernel_rfl) ?_ _
      clear hHeld
      have HQ26x0w5 := hJ (BX.new HQ26x0w4.out HX39.out)
      obtain ⟨cl40, cl41⟩ := HQ26x0w5.out.c2 0 1 rfl rfl
      go_wp2_with fail
      clear cl40 cl41
      refine (turn_any x19 y19 0 0 v39).mono ?_
      rw [tu_e2, HE.out, if_neg HN0.out]
      rintro e w42 ⟨rfl, hb⟩
      have HB42 := hJ hb
      clear hb
      have HC4_6 := hJ (bt HX39.out HB42.out)
      have HOXw6 := hJ (OwnR.new HOXw4.out HC4_6.out)
      have HQ26x0w6 := hJ (BX.new HQ26x0w5.out HB42.out)
      have HS43 : Hid (∀ w', Below w42.heap.size w42 w' → (fun w' : World => w'.cell? ⟨gx, 2, none⟩ = some (.int .i64 px1_1) ∧ w'.cell? ⟨gx, 3, none⟩ = some (.int .i64 py1_1) ∧ w'.cell? ⟨gx, 4, none⟩ = some (.int .i64 px2_1) ∧ w'.cell? ⟨gx, 5, none⟩ = some (.int .i64 py2_1) ∧ w'.cell? ⟨w25.heap.size, 0, none⟩ = some (.int .i64 x19) ∧ w'.cell? ⟨w25.heap.size, 1, none⟩ = some (.int .i64 y19) ∧ Below w42.heap.size w42 w') w') := hJ (fun w' hb => ⟨(OwnR.new HOXw6.out hb).at 2 rfl, (OwnR.new HOXw6.out hb).at 3 rfl, (OwnR.new HOXw6.out hb).at 4 rfl, (OwnR.new HOXw6.out hb).at 5 rfl, (BX.new HQ26x0w6.out hb).cell 0 rfl, (BX.new HQ26x0w6.out hb).cell 1 rfl, hb⟩)
      go_wp2_with fail
      obtain ⟨v43, hv43⟩ := nmz (World.drew w42)
      have HX43 := hJ (show Below w42.heap.size w42 v43 by rw [← hv43]; exact (Below.refl _ _).drew)
      refine wp_region_held_drew (S := (fun w' : World => w'.cell? ⟨gx, 2, none⟩ = some (.int .i64 px1_1) ∧ w'.cell? ⟨gx, 3, none⟩ = some (.int .i64 py1_1) ∧ w'.cell? ⟨gx, 4, none⟩ = some (.int .i64 px2_1) ∧ w'.cell? ⟨gx, 5, none⟩ = some (.int .i64 py2_1) ∧ w'.cell? ⟨w25.heap.size, 0, none⟩ = some (.int .i64 x19) ∧ w'.cell? ⟨w25.heap.size, 1, none⟩ = some (.int .i64 y19) ∧ Below w42.heap.size w42 w')) (by kernel_rfl) ?_ (fun hHeld => ?_)
      ·rw [hv43]
       exact HS43.out _ HX43.out
      rw [hv43] at hHeld ⊢
      clear hv43
      refine tq 0 ?_
      try simp only [PT]
      refine tq 1 ?_
      try simp only [PT]
      refine tq 2 ?_
      try simp only [PT]
      refine tq 3 ?_
      try simp only [PT]
      refine tq 4 ?_
      try simp only [PT]
      refine tq 5 ?_
      try simp only [PT]
      refine tq 6 ?_
      try simp only [PT]
      refine tq 7 ?_
      try simp only [PT]
      refine tq 8 ?_
      try simp only [PT]
      refine tq 9 ?_
      try simp only [PT]
      refine wpAnyH_ready (rs := [10]) (by kernel_rfl) (by simp) ?_
      refine .cons rfl (fun K hK => ?_) .nil
      go_simp
      go_at_call 16
      refine (sector_any px1_1 py1_1 px2_1 py2_1 x19 y19 v43).mono ?_
      rw [se_e HPR1.out HPR2.out, HE.out]
      rintro e v44 ⟨rfl, hb⟩
      have HB44 := hJ hb
      clear hb
      go_wp2_with fail
      have HX44 := hJ (bt HX43.out HB44.out)
      clear hHeld
      refine hK.out _ _ (HS43.out _ HX44.out) (fun hHeld => ?_)
      clear hK K
      try simp only [PT]
      refine tq 11 ?_
      try simp only [PT]
      refine tq 12 ?_
      try simp only [PT]
      refine tq 13 ?_
      try simp only [PT]
      refine tq 14 ?_
      try simp only [PT]
      refine tq 15 ?_
      try simp only [PT]
      refine wpAnyH_done (by kernel_rfl) ?_ _
      clear hHeld
      have HQ26x0w7 := hJ (BX.new HQ26x0w6.out HX44.out)
      obtain ⟨cl45, cl46⟩ := HQ26x0w7.out.c2 0 1 rfl rfl
      go_wp2_with fail
      clear cl45 cl46
      refine (rdir_any x19 y19 v44).mono ?_
      rw [HE.out]
      rintro e w47 ⟨rfl, hb⟩
      have HB47 := hJ hb
      clear hb
      have HC3_8 := hJ (bt (bt (bt (bt HB27.out HX39.out) HB42.out) HX44.out) HB47.out)
      go_wp2_with fail
      go_roundw
      case rel => exact ⟨0 + 1, by omega, by go_num, HC3_8.out⟩
      case measure => simp [intOf] <;> omega
    ·(try rw [show ((1 : Nat) : Int) = 1 from rfl])
     have HE := hJ (show diE 0 0 = 1 by decide)
     have HC1_4 := hJ (bt (bt HB25.out HB26.out) HB27.out)
     have HOXw4 := hJ (OwnR.new HOX.out HC1_4.out)
     have HQ26x0w4 := hJ (BX.new HQ26x0.out HB27.out)
     have HS48 : Hid (∀ w', Below wl27.heap.size wl27 w' → (fun w' : World => w'.cell? ⟨gx, 2, none⟩ = some (.int .i64 px1_1) ∧ w'.cell? ⟨gx, 3, none⟩ = some (.int .i64 py1_1) ∧ w'.cell? ⟨w25.heap.size, 2, none⟩ = some (.int .i64 0) ∧ w'.cell? ⟨w25.heap.size, 3, none⟩ = some (.int .i64 0) ∧ Below wl27.heap.size wl27 w') w') := hJ (fun w' hb => ⟨(OwnR.new HOXw4.out hb).at 2 rfl, (OwnR.new HOXw4.out hb).at 3 rfl, (BX.new HQ26x0w4.out hb).cell 2 rfl, (BX.new HQ26x0w4.out hb).cell 3 rfl, hb⟩)
     go_wp2_with fail
     obtain ⟨v48, hv48⟩ := nmz (World.drew wl27)
     have HX48 := hJ (show Below wl27.heap.size wl27 v48 by rw [← hv48]; exact (Below.refl _ _).drew)
     refine wp_region_held_drew (S := (fun w' : World => w'.cell? ⟨gx, 2, none⟩ = some (.int .i64 px1_1) ∧ w'.cell? ⟨gx, 3, none⟩ = some (.int .i64 py1_1) ∧ w'.cell? ⟨w25.heap.size, 2, none⟩ = some (.int .i64 0) ∧ w'.cell? ⟨w25.heap.size, 3, none⟩ = some (.int .i64 0) ∧ Below wl27.heap.size wl27 w')) (by kernel_rfl) ?_ (fun hHeld => ?_)
     ·rw [hv48]
      exact HS48.out _ HX48.out
     rw [hv48] at hHeld ⊢
     clear hv48
     refine tq 0 ?_
     try simp only [PT]
     refine tq 1 ?_
     try simp only [PT]
     refine tq 2 ?_
     try simp only [PT]
     refine tq 3 ?_
     try simp only [PT]
     refine tq 4 ?_
     try simp only [PT]
     refine tq 5 ?_
     try simp only [PT]
     refine tq 6 ?_
     try simp only [PT]
     refine wpAnyH_ready (rs := [7]) (by kernel_rfl) (by simp) ?_
     refine .cons rfl (fun K hK => ?_) .nil
     go_simp
     go_at_call 15
     refine (turn_any px1_1 py1_1 0 0 v48).mono ?_
     rw [tu_e1 HPR1.out, HE.out]
     rintro e v49 ⟨rfl, hb⟩
     have HB49 := hJ hb
     clear hb
     go_wp2_with fail
     have HX49 := hJ (bt HX48.out HB49.out)
     clear hHeld
     refine hK.out _ _ (HS48.out _ HX49.out) (fun hHeld => ?_)
     clear hK K
     try simp only [PT]
     refine tq 8 ?_
     try simp only [PT]
     refine tq 9 ?_
     try simp only [PT]
     refine tq 10 ?_
     try simp only [PT]
     refine tq 11 ?_
     try simp only [PT]
     refine tq 12 ?_
     try simp only [PT]
     refine wpAnyH_done (by kernel_rfl) ?_ _
     clear hHeld
     have HQ26x0w5 := hJ (BX.new HQ26x0w4.out HX49.out)
     obtain ⟨cl50, cl51⟩ := HQ26x0w5.out.c2 2 3 rfl rfl
     go_wp2_with fail
     clear cl50 cl51
     refine (turn_any 0 0 0 0 v49).mono ?_
     rw [show tuE 0 0 0 0 = 1 by decide]
     rintro e w52 ⟨rfl, hb⟩
     have HB52 := hJ hb
     clear hb
     have HC4_6 := hJ (bt HX49.out HB52.out)
     have HOXw6 := hJ (OwnR.new HOXw4.out HC4_6.out)
     have HQ26x0w6 := hJ (BX.new HQ26x0w5.out HB52.out)
     have HS53 : Hid (∀ w', Below w52.heap.size w52 w' → (fun w' : World => w'.cell? ⟨gx, 2, none⟩ = some (.int .i64 px1_1) ∧ w'.cell? ⟨gx, 3, none⟩ = some (.int .i64 py1_1) ∧ w'.cell? ⟨gx, 4, none⟩ = some (.int .i64 px2_1) ∧ w'.cell? ⟨gx, 5, none⟩ = some (.int .i64 py2_1) ∧ w'.cell? ⟨w25.heap.size, 2, none⟩ = some (.int .i64 0) ∧ w'.cell? ⟨w25.heap.size, 3, none⟩ = some (.int .i64 0) ∧ Below w52.heap.size w52 w') w') := hJ (fun w' hb => ⟨(OwnR.new HOXw6.out hb).at 2 rfl, (OwnR.new HOXw6.out hb).at 3 rfl, (OwnR.new HOXw6.out hb).at 4 rfl, (OwnR.new HOXw6.out hb).at 5 rfl, (BX.new HQ26x0w6.out hb).cell 2 rfl, (BX.new HQ26x0w6.out hb).cell 3 rfl, hb⟩)
     go_wp2_with fail
     obtain ⟨v53, hv53⟩ := nmz (World.drew w52)
     have HX53 := hJ (show Below w52.heap.size w52 v53 by rw [← hv53]; exact (Below.refl _ _).drew)
     refine wp_region_held_drew (S := (fun w' : World => w'.cell? ⟨gx, 2, none⟩ = some (.int .i64 px1_1) ∧ w'.cell? ⟨gx, 3, none⟩ = some (.int .i64 py1_1) ∧ w'.cell? ⟨gx, 4, none⟩ = some (.int .i64 px2_1) ∧ w'.cell? ⟨gx, 5, none⟩ = some (.int .i64 py2_1) ∧ w'.cell? ⟨w25.heap.size, 2, none⟩ = some (.int .i64 0) ∧ w'.cell? ⟨w25.heap.size, 3, none⟩ = some (.int .i64 0) ∧ Below w52.heap.size w52 w')) (by kernel_rfl) ?_ (fun hHeld => ?_)
     ·rw [hv53]
      exact HS53.out _ HX53.out
     rw [hv53] at hHeld ⊢
     clear hv53
     refine tq 0 ?_
     try simp only [PT]
     refine tq 1 ?_
     try simp only [PT]
     refine tq 2 ?_
     try simp only [PT]
     refine tq 3 ?_
     try simp only [PT]
     refine tq 4 ?_
     try simp only [PT]
     refine tq 5 ?_
     try simp only [PT]
     refine tq 6 ?_
     try simp only [PT]
     refine tq 7 ?_
     try simp only [PT]
     refine tq 8 ?_
     try simp only [PT]
     refine tq 9 ?_
     try simp only [PT]
     refine wpAnyH_ready (rs := [10]) (by kernel_rfl) (by simp) ?_
     refine .cons rfl (fun K hK => ?_) .nil
     go_simp
     go_at_call 16
     refine (sector_any px1_1 py1_1 px2_1 py2_1 0 0 v53).mono ?_
     rw [se_e HPR1.out HPR2.out, HE.out]
     rintro e v54 ⟨rfl, hb⟩
     have HB54 := hJ hb
     clear hb
     go_wp2_with fail
     have HX54 := hJ (bt HX53.out HB54.out)
     clear hHeld
     refine hK.out _ _ (HS53.out _ HX54.out) (fun hHeld => ?_)
     clear hK K
     try simp only [PT]
     refine tq 11 ?_
     try simp only [PT]
     refine tq 12 ?_
     try simp only [PT]
     refine tq 13 ?_
     try simp only [PT]
     refine tq 14 ?_
     try simp only [PT]
     refine tq 15 ?_
     try simp only [PT]
     refine wpAnyH_done (by kernel_rfl) ?_ _
     clear hHeld
     have HQ26x0w7 := hJ (BX.new HQ26x0w6.out HX54.out)
     obtain ⟨cl55, cl56⟩ := HQ26x0w7.out.c2 2 3 rfl rfl
     go_wp2_with fail
     clear cl55 cl56
     refine (rdir_any 0 0 v54).mono ?_
     rw [HE.out]
     rintro e w57 ⟨rfl, hb⟩
     have HB57 := hJ hb
     clear hb
     have HC3_8 := hJ (bt (bt (bt (bt HB27.out HX49.out) HB52.out) HX54.out) HB57.out)
     go_wp2_with fail
     go_roundw
     case rel => exact ⟨1 + 1, by omega, by go_num, HC3_8.out⟩
     case measure => simp [intOf] <;> omega
    ·(try rw [show ((2 : Nat) : Int) = 2 from rfl])
     have HC1_4 := hJ (bt (bt HB25.out HB26.out) HB27.out)
     have HOXw4 := hJ (OwnR.new HOX.out HC1_4.out)
     have HC0_4 := hJ (bt (bt (bt HB1.out HB25.out) HB26.out) HB27.out)
     go_upto_region 19 with fail
     refine wp_mono (turns_t3 px0_1 py0_1 px1_1 py1_1 px2_1 py2_1 px3_1 py3_1 w.heap.size gx cpx w wl27 HPR0 HPR1 HPR2 HPR3 HOXw4 (hJ HC0_4.out) _ (fun a' w' => bodyPost Try.prog Try.f4 (fun e w' => e = .returned (.bool true) ∧ Below w.heap.size w w') .normal a' w') _ (by rename_i hKK _ _; exact fun a' w' h => hKK a' w' (wp_mono h (fun e a w h => by cases e <;> exact h))) (by assumption)) (fun e a w h => by cases e <;> exact h)
theorem exactTurns_law (a0 : Option Addr) (len0 cap0 : Nat) (z0 : List Int) (a1 a2 : Int) (w : World) (w0 : RowI .i64 w a0 len0 cap0 z0) (w1 : (Lit.int .i64 a1).wf = true) (w2 : (Lit.int .i64 a2).wf = true) :
  Calls Try.prog 4 #[.slice a0 len0 cap0, .int .i64 a1, .int .i64 a2] w fun e w' => e = .returned (.bool true) ∧ Below w.heap.size w w' := by
 obtain ⟨ls, h1, h2, h3, h4⟩ := w0.open_
 exact exactTurns_walk a0 len0 cap0 ls a1 a2 w ⟨h4, by rw [h1]; exact h2, h3⟩ w1 w2
end Go.Proofs.Ytdamadkhbeonaaa
