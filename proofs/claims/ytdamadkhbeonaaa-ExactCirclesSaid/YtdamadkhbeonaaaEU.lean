/- The walk of the law ExactCircles. -/
import Derived.Test.YtdamadkhbeonaaaEC
import Derived.Test.YtdamadkhbeonaaaEO
import Derived.Test.YtdamadkhbeonaaaEI
import Derived.Laws.BytesArg
namespace Go.Proofs.Ytdamadkhbeonaaa
open Go.RowKit
attribute [local go_sem ↓] Go.wp_at_zero Go.wp_at_succ
set_option linter.unusedVariables false
set_option linter.unusedSimpArgs false
theorem stop_hereU {p : Prop} (h : ∀ q : Prop, Hid (q = p) → q) : p := h p (hJ rfl)
set_option maxRecDepth 100000 in
set_option maxHeartbeats 12800000 in
theorem exactCircles_walk (A : Option Addr) (ln c : Nat) (xs : List Int) (wi hw by0 : Int) (w : World) (hg : Got w (.slice A ln c) xs) (hwi : (Lit.int .i64 wi).wf = true) (hh : (Lit.int .i64 hw).wf = true) (hb0 : (Lit.int .i64 by0).wf = true) :
  Calls Try.prog 3 #[.slice A ln c, .int .i64 wi, .int .i64 hw, .int .i64 by0] w fun e w' => e = .returned (.bool true) ∧ Below w.heap.size w w' := by
 have HG := hJ hg
 have HHW := hJ hh
 have HBY := hJ hb0
 have HWI := hJ hwi
 clear hg hh hb0 hwi
 obtain ⟨ka, hka⟩ : ∃ j : Nat, aroundZ wi 4 = (j : Int) ∧ j < 4 := ⟨(aroundZ wi 4).toNat, by have := aroundZ_in wi (n := 4) (by decide); omega, by have := aroundZ_in wi (n := 4) (by decide); omega⟩
 have HKA := hJ hka
 clear hka
 go_enter Try.func3, Try.ntmps3
 go_wp2_with fail
 obtain ⟨i25, hi25, hz25, hs25, hy25⟩ := info_parts (show (Try.prog.info? 25).map (fun i => (i.zero, i.size, i.bytes)) = some (some (.agg #[.int .i64 0, .int .i64 0]), 2, 16) by kernel_rfl)
 have HT25 := hJ (And.intro hi25 (And.intro hz25 (And.intro hs25 hy25)))
 clear hi25 hz25 hs25 hy25
 go_loopw [10, 9] (fun tv tx wr => ∃ i : Nat, tv = .int .i64 (i : Int) ∧ Below w.heap.size w wr ∧ ((i = 0 ∧ tx = .slice none 0 0) ∨ (i = 1 ∧ ∃ (gx cpx : Nat) (px0_1 py0_1 : Int), tx = .slice (some ⟨gx, 0, none⟩) 1 cpx ∧ Hid (OwnR noU wr w.heap.size 25 2 (.slice (some ⟨gx, 0, none⟩) 1 cpx) 1 [.int .i64 px0_1, .int .i64 py0_1]) ∧ Hid (w.heap.size ≤ gx) ∧ Hid (gx < wr.heap.size) ∧ Hid (Co px0_1 ∧ Co py0_1)) ∨ (i = 2 ∧ ∃ (gx cpx : Nat) (px0_1 py0_1 px1_1 py1_1 : Int), tx = .slice (some ⟨gx, 0, none⟩) 2 cpx ∧ Hid (OwnR noU wr w.heap.size 25 2 (.slice (some ⟨gx, 0, none⟩) 2 cpx) 2 [.int .i64 px0_1, .int .i64 py0_1, .int .i64 px1_1, .int .i64 py1_1]) ∧ Hid (w.heap.size ≤ gx) ∧ Hid (gx < wr.heap.size) ∧ Hid (Co px0_1 ∧ Co py0_1) ∧ Hid (Co px1_1 ∧ Co py1_1)) ∨ (i = 3 ∧ ∃ (gx cpx : Nat) (px0_1 py0_1 px1_1 py1_1 px2_1 py2_1 : Int), tx = .slice (some ⟨gx, 0, none⟩) 3 cpx ∧ Hid (OwnR noU wr w.heap.size 25 2 (.slice (some ⟨gx, 0, none⟩) 3 cpx) 3 [.int .i64 px0_1, .int .i64 py0_1, .int .i64 px1_1, .int .i64 py1_1, .int .i64 px2_1, .int .i64 py2_1]) ∧ Hid (w.heap.size ≤ gx) ∧ Hid (gx < wr.heap.size) ∧ Hid (Co px0_1 ∧ Co py0_1) ∧ Hid (Co px1_1 ∧ Co py1_1) ∧ Hid (Co px2_1 ∧ Co py2_1)) ∨ (i = 4 ∧ ∃ (gx cpx : Nat) (px0_1 py0_1 px1_1 py1_1 px2_1 py2_1 px3_1 py3_1 : Int), tx = .slice (some ⟨gx, 0, none⟩) 4 cpx ∧ Hid (OwnR noU wr w.heap.size 25 2 (.slice (some ⟨gx, 0, none⟩) 4 cpx) 4 [.int .i64 px0_1, .int .i64 py0_1, .int .i64 px1_1, .int .i64 py1_1, .int .i64 px2_1, .int .i64 py2_1, .int .i64 px3_1, .int .i64 py3_1]) ∧ Hid (w.heap.size ≤ gx) ∧ Hid (gx < wr.heap.size) ∧ Hid (Co px0_1 ∧ Co py0_1) ∧ Hid (Co px1_1 ∧ Co py1_1) ∧ Hid (Co px2_1 ∧ Co py2_1) ∧ Hid (Co px3_1 ∧ Co py3_1)))) (fun tv _ _ => 4 - (intOf tv).toNat)
 case atStart => exact ⟨0, rfl, Below.refl _ _, .inl ⟨rfl, rfl⟩⟩
 case round =>
  obtain ⟨i1, rfl, hbel, hdis⟩ := hrel
  obtain ⟨wl1, rfl⟩ : ∃ W : World, W = wr := ⟨_, rfl⟩
  have HB1 := hJ hbel
  clear hbel
  rcases hdis with ⟨rfl, rfl⟩ | ⟨rfl, gx, cpx, px0_1, py0_1, rfl, HOX, HGX, HLX, HPR0⟩ | ⟨rfl, gx, cpx, px0_1, py0_1, px1_1, py1_1, rfl, HOX, HGX, HLX, HPR0, HPR1⟩ | ⟨rfl, gx, cpx, px0_1, py0_1, px1_1, py1_1, px2_1, py2_1, rfl, HOX, HGX, HLX, HPR0, HPR1, HPR2⟩ | ⟨rfl, gx, cpx, px0_1, py0_1, px1_1, py1_1, px2_1, py2_1, px3_1, py3_1, rfl, HOX, HGX, HLX, HPR0, HPR1, HPR2, HPR3⟩
  ·(try rw [show ((0 : Nat) : Int) = 0 from rfl])
   have HGw1 := hJ (Got.new HG.out HB1.out)
   go_wp2_with fail
   refine (pickz_any (.slice A ln c) xs 0 1048576 wl1 HGw1.out (by decide) (by decide) (by decide)).mono ?_
   rintro e w2 ⟨⟨x11, rfl, hzx11⟩, rfl⟩
   have HPKx11 := hJ hzx11
   clear hzx11
   go_wp2_with fail
   refine (grid_any x11 wl1 (HPKx11.out.2)).mono ?_
   rintro e w3 ⟨x12, y12, rfl, hc12, hd12, hb⟩
   have HB3 := hJ hb
   clear hb
   have HCO12 := hJ (And.intro hc12 hd12)
   clear hc12 hd12
   obtain ⟨x4, hx4⟩ := nmz (w3.alloc (.cells #[.int .i64 x12, .int .i64 y12] 25))
   have HB4 := hJ (show Below w3.heap.size w3 x4 by rw [← hx4]; exact ((Below.refl _ _).alloc (Nat.le_refl _) _))
   have HQ4x0 := hJ (show BX 25 x4 w3.heap.size #[.int .i64 x12, .int .i64 y12] by rw [← hx4]; exact (BX.at rfl))
   have HG4x0 := hJ (show w3.heap.size ≤ w3.heap.size by omega)
   have HL4x0 := hJ (show w3.heap.size < x4.heap.size from HQ4x0.out.lt)
   have HO5 := hJ (OwnR.nil noU x4 w.heap.size 25 2)
   have HC0_3 := hJ (bt (bt HB1.out HB3.out) HB4.out)
   go_wp2_with (at_builtin; refine wpList_append_okv noU rfl _ _ 23 rfl w.heap.size 25 i25 _ 2 16 Try.underlying23 HT25.out.1 HT25.out.2.1 HT25.out.2.2.1 HT25.out.2.2.2 rfl rfl (by decide) (.slice none 0 0) 0 [] rfl HO5.out ⟨w3.heap.size, 0, none⟩ 1 1 [.int .i64 x12, .int .i64 y12] rfl rfl (BX.news HQ4x0.out) (List.all_eq_true (p := Value.oneCell')|>.1 rfl) rfl (by unfold maxLen; omega) (by omega) (HC0_3.out).size (by decide) ?_; intro va wa hown hgrow; refine stop_hereU (fun q HSTP => ?_))
   clear hx4
   rw [HSTP.out]
   clear HSTP q
   have hown : OwnR noU wa w.heap.size 25 2 va 1 [.int .i64 x12, .int .i64 y12] := hown
   obtain ⟨ga6, cp6, rfl, hg1, hg2, hcap, _⟩ := hown.row (by decide)
   obtain ⟨w6, rfl⟩ : ∃ W, W = wa := ⟨_, rfl⟩
   have HO6 := hJ (show OwnR noU w6 w.heap.size 25 2 (.slice (some ⟨ga6, 0, none⟩) 1 cp6) 1 [.int .i64 x12, .int .i64 y12] from hown)
   have HG6 := hJ hg1
   have HL6 := hJ hg2
   have HW6 := hJ hgrow
   have HN6 := hJ (show 1 ≤ cp6 from hcap)
   clear hown hg1 hg2 hgrow hcap
   have HC0_4 := hJ (show Below w.heap.size w w6 from Grew.below HC0_3.out HW6.out HO5.out (Nat.le_refl _) (HC0_3.out).size)
   have HLT7 := hJ HL6.out
   go_wp2_with fail
   go_roundw
   case rel => exact ⟨1, by go_num, HC0_4.out, .inr (.inl ⟨rfl, ga6, cp6, x12, y12, rfl, HO6, HG6, HLT7, HCO12⟩)⟩
   case measure => simp [intOf] <;> omega
  ·(try rw [show ((1 : Nat) : Int) = 1 from rfl])
   have HGw1 := hJ (Got.new HG.out HB1.out)
   go_wp2_with fail
   refine (pickz_any (.slice A ln c) xs 1 1048576 wl1 HGw1.out (by decide) (by decide) (by decide)).mono ?_
   rintro e w8 ⟨⟨x13, rfl, hzx13⟩, rfl⟩
   have HPKx13 := hJ hzx13
   clear hzx13
   go_wp2_with fail
   refine (grid_any x13 wl1 (HPKx13.out.2)).mono ?_
   rintro e w9 ⟨x14, y14, rfl, hc14, hd14, hb⟩
   have HB9 := hJ hb
   clear hb
   have HCO14 := hJ (And.intro hc14 hd14)
   clear hc14 hd14
   obtain ⟨x10, hx10⟩ := nmz (w9.alloc (.cells #[.int .i64 x14, .int .i64 y14] 25))
   have HB10 := hJ (show Below w9.heap.size w9 x10 by rw [← hx10]; exact ((Below.refl _ _).alloc (Nat.le_refl _) _))
   have HQ10x0 := hJ (show BX 25 x10 w9.heap.size #[.int .i64 x14, .int .i64 y14] by rw [← hx10]; exact (BX.at rfl))
   have HG10x0 := hJ (show w9.heap.size ≤ w9.heap.size by omega)
   have HL10x0 := hJ (show w9.heap.size < x10.heap.size from HQ10x0.out.lt)
   have HC1_3 := hJ (bt HB9.out HB10.out)
   have HOXw3 := hJ (OwnR.new HOX.out HC1_3.out)
   have HC0_3 := hJ (bt (bt HB1.out HB9.out) HB10.out)
   go_wp2_with (at_builtin; refine wpList_append_okv noU rfl _ _ 23 rfl w.heap.size 25 i25 _ 2 16 Try.underlying23 HT25.out.1 HT25.out.2.1 HT25.out.2.2.1 HT25.out.2.2.2 rfl rfl (by decide) (.slice (some ⟨gx, 0, none⟩) 1 cpx) 1 [.int .i64 px0_1, .int .i64 py0_1] rfl HOXw3.out ⟨w9.heap.size, 0, none⟩ 1 1 [.int .i64 x14, .int .i64 y14] rfl rfl (BX.news HQ10x0.out) (List.all_eq_true (p := Value.oneCell')|>.1 rfl) rfl (by unfold maxLen; omega) (by omega) (HC0_3.out).size (by decide) ?_; intro va wa hown hgrow; refine stop_hereU (fun q HSTP => ?_))
   clear hx10
   rw [HSTP.out]
   clear HSTP q
   have hown : OwnR noU wa w.heap.size 25 2 va 2 [.int .i64 px0_1, .int .i64 py0_1, .int .i64 x14, .int .i64 y14] := hown
   obtain ⟨ga11, cp11, rfl, hg1, hg2, hcap, _⟩ := hown.row (by decide)
   obtain ⟨w11, rfl⟩ : ∃ W, W = wa := ⟨_, rfl⟩
   have HO11 := hJ (show OwnR noU w11 w.heap.size 25 2 (.slice (some ⟨ga11, 0, none⟩) 2 cp11) 2 [.int .i64 px0_1, .int .i64 py0_1, .int .i64 x14, .int .i64 y14] from hown)
   have HG11 := hJ hg1
   have HL11 := hJ hg2
   have HW11 := hJ hgrow
   have HN11 := hJ (show 2 ≤ cp11 from hcap)
   clear hown hg1 hg2 hgrow hcap
   have HC0_4 := hJ (show Below w.heap.size w w11 from Grew.below HC0_3.out HW11.out HOXw3.out (Nat.le_refl _) (HC0_3.out).size)
   have HLT12 := hJ HL11.out
   go_wp2_with fail
   go_roundw
   case rel => exact ⟨2, by go_num, HC0_4.out, .inr (.inr (.inl ⟨rfl, ga11, cp11, px0_1, py0_1, x14, y14, rfl, HO11, HG11, HLT12, HPR0, HCO14⟩))⟩
   case measure => simp [intOf] <;> omega
  ·(try rw [show ((2 : Nat) : Int) = 2 from rfl])
   have HGw1 := hJ (Got.new HG.out HB1.out)
   go_wp2_with fail
   refine (pickz_any (.slice A ln c) xs 2 1048576 wl1 HGw1.out (by decide) (by decide) (by decide)).mono ?_
   rintro e w13 ⟨⟨x15, rfl, hzx15⟩, rfl⟩
   have HPKx15 := hJ hzx15
   clear hzx15
   go_wp2_with fail
   refine (grid_any x15 wl1 (HPKx15.out.2)).mono ?_
   rintro e w14 ⟨x16, y16, rfl, hc16, hd16, hb⟩
   have HB14 := hJ hb
   clear hb
   have HCO16 := hJ (And.intro hc16 hd16)
   clear hc16 hd16
   obtain ⟨x15, hx15⟩ := nmz (w14.alloc (.cells #[.int .i64 x16, .int .i64 y16] 25))
   have HB15 := hJ (show Below w14.heap.size w14 x15 by rw [← hx15]; exact ((Below.refl _ _).alloc (Nat.le_refl _) _))
   have HQ15x0 := hJ (show BX 25 x15 w14.heap.size #[.int .i64 x16, .int .i64 y16] by rw [← hx15]; exact (BX.at rfl))
   have HG15x0 := hJ (show w14.heap.size ≤ w14.heap.size by omega)
   have HL15x0 := hJ (show w14.heap.size < x15.heap.size from HQ15x0.out.lt)
   have HC1_3 := hJ (bt HB14.out HB15.out)
   have HOXw3 := hJ (OwnR.new HOX.out HC1_3.out)
   have HC0_3 := hJ (bt (bt HB1.out HB14.out) HB15.out)
   go_wp2_with (at_builtin; refine wpList_append_okv noU rfl _ _ 23 rfl w.heap.size 25 i25 _ 2 16 Try.underlying23 HT25.out.1 HT25.out.2.1 HT25.out.2.2.1 HT25.out.2.2.2 rfl rfl (by decide) (.slice (some ⟨gx, 0, none⟩) 2 cpx) 2 [.int .i64 px0_1, .int .i64 py0_1, .int .i64 px1_1, .int .i64 py1_1] rfl HOXw3.out ⟨w14.heap.size, 0, none⟩ 1 1 [.int .i64 x16, .int .i64 y16] rfl rfl (BX.news HQ15x0.out) (List.all_eq_true (p := Value.oneCell')|>.1 rfl) rfl (by unfold maxLen; omega) (by omega) (HC0_3.out).size (by decide) ?_; intro va wa hown hgrow; refine stop_hereU (fun q HSTP => ?_))
   clear hx15
   rw [HSTP.out]
   clear HSTP q
   have hown : OwnR noU wa w.heap.size 25 2 va 3 [.int .i64 px0_1, .int .i64 py0_1, .int .i64 px1_1, .int .i64 py1_1, .int .i64 x16, .int .i64 y16] := hown
   obtain ⟨ga16, cp16, rfl, hg1, hg2, hcap, _⟩ := hown.row (by decide)
   obtain ⟨w16, rfl⟩ : ∃ W, W = wa := ⟨_, rfl⟩
   have HO16 := hJ (show OwnR noU w16 w.heap.size 25 2 (.slice (some ⟨ga16, 0, none⟩) 3 cp16) 3 [.int .i64 px0_1, .int .i64 py0_1, .int .i64 px1_1, .int .i64 py1_1, .int .i64 x16, .int .i64 y16] from hown)
   have HG16 := hJ hg1
   have HL16 := hJ hg2
   have HW16 := hJ hgrow
   have HN16 := hJ (show 3 ≤ cp16 from hcap)
   clear hown hg1 hg2 hgrow hcap
   have HC0_4 := hJ (show Below w.heap.size w w16 from Grew.below HC0_3.out HW16.out HOXw3.out (Nat.le_refl _) (HC0_3.out).size)
   have HLT17 := hJ HL16.out
   go_wp2_with fail
   go_roundw
   case rel => exact ⟨3, by go_num, HC0_4.out, .inr (.inr (.inr (.inl ⟨rfl, ga16, cp16, px0_1, py0_1, px1_1, py1_1, x16, y16, rfl, HO16, HG16, HLT17, HPR0, HPR1, HCO16⟩)))⟩
   case measure => simp [intOf] <;> omega
  ·(try rw [show ((3 : Nat) : Int) = 3 from rfl])
   have HGw1 := hJ (Got.new HG.out HB1.out)
   go_wp2_with fail
   refine (pickz_any (.slice A ln c) xs 3 1048576 wl1 HGw1.out (by decide) (by decide) (by decide)).mono ?_
   rintro e w18 ⟨⟨x17, rfl, hzx17⟩, rfl⟩
   have HPKx17 := hJ hzx17
   clear hzx17
   go_wp2_with fail
   refine (grid_any x17 wl1 (HPKx17.out.2)).mono ?_
   rintro e w19 ⟨x18, y18, rfl, hc18, hd18, hb⟩
   have HB19 := hJ hb
   clear hb
   have HCO18 := hJ (And.intro hc18 hd18)
   clear hc18 hd18
   obtain ⟨x20, hx20⟩ := nmz (w19.alloc (.cells #[.int .i64 x18, .int .i64 y18] 25))
   have HB20 := hJ (show Below w19.heap.size w19 x20 by rw [← hx20]; exact ((Below.refl _ _).alloc (Nat.le_refl _) _))
   have HQ20x0 := hJ (show BX 25 x20 w19.heap.size #[.int .i64 x18, .int .i64 y18] by rw [← hx20]; exact (BX.at rfl))
   have HG20x0 := hJ (show w19.heap.size ≤ w19.heap.size by omega)
   have HL20x0 := hJ (show w19.heap.size < x20.heap.size from HQ20x0.out.lt)
   have HC1_3 := hJ (bt HB19.out HB20.out)
   have HOXw3 := hJ (OwnR.new HOX.out HC1_3.out)
   have HC0_3 := hJ (bt (bt HB1.out HB19.out) HB20.out)
   go_wp2_with (at_builtin; refine wpList_append_okv noU rfl _ _ 23 rfl w.heap.size 25 i25 _ 2 16 Try.underlying23 HT25.out.1 HT25.out.2.1 HT25.out.2.2.1 HT25.out.2.2.2 rfl rfl (by decide) (.slice (some ⟨gx, 0, none⟩) 3 cpx) 3 [.int .i64 px0_1, .int .i64 py0_1, .int .i64 px1_1, .int .i64 py1_1, .int .i64 px2_1, .int .i64 py2_1] rfl HOXw3.out ⟨w19.heap.size, 0, none⟩ 1 1 [.int .i64 x18, .int .i64 y18] rfl rfl (BX.news HQ20x0.out) (List.all_eq_true (p := Value.oneCell')|>.1 rfl) rfl (by unfold maxLen; omega) (by omega) (HC0_3.out).size (by decide) ?_; intro va wa hown hgrow; refine stop_hereU (fun q HSTP => ?_))
   clear hx20
   rw [HSTP.out]
   clear HSTP q
   have hown : OwnR noU wa w.heap.size 25 2 va 4 [.int .i64 px0_1, .int .i64 py0_1, .int .i64 px1_1, .int .i64 py1_1, .int .i64 px2_1, .int .i64 py2_1, .int .i64 x18, .int .i64 y18] := hown
   obtain ⟨ga21, cp21, rfl, hg1, hg2, hcap, _⟩ := hown.row (by decide)
   obtain ⟨w21, rfl⟩ : ∃ W, W = wa := ⟨_, rfl⟩
   have HO21 := hJ (show OwnR noU w21 w.heap.size 25 2 (.slice (some ⟨ga21, 0, none⟩) 4 cp21) 4 [.int .i64 px0_1, .int .i64 py0_1, .int .i64 px1_1, .int .i64 py1_1, .int .i64 px2_1, .int .i64 py2_1, .int .i64 x18, .int .i64 y18] from hown)
   have HG21 := hJ hg1
   have HL21 := hJ hg2
   have HW21 := hJ hgrow
   have HN21 := hJ (show 4 ≤ cp21 from hcap)
   clear hown hg1 hg2 hgrow hcap
   have HC0_4 := hJ (show Below w.heap.size w w21 from Grew.below HC0_3.out HW21.out HOXw3.out (Nat.le_refl _) (HC0_3.out).size)
   have HLT22 := hJ HL21.out
   go_wp2_with fail
   go_roundw
   case rel => exact ⟨4, by go_num, HC0_4.out, .inr (.inr (.inr (.inr (⟨rfl, ga21, cp21, px0_1, py0_1, px1_1, py1_1, px2_1, py2_1, x18, y18, rfl, HO21, HG21, HLT22, HPR0, HPR1, HPR2, HCO18⟩))))⟩
   case measure => simp [intOf] <;> omega
  ·(try rw [show ((4 : Nat) : Int) = 4 from rfl])
   obtain ⟨x23, hx23⟩ := nmz (wl1.alloc (.cells #[] 25))
   have HB23 := hJ (show Below wl1.heap.size wl1 x23 by rw [← hx23]; exact ((Below.refl _ _).alloc (Nat.le_refl _) _))
   have HQ23x0 := hJ (show BX 25 x23 wl1.heap.size #[] by rw [← hx23]; exact (BX.at rfl))
   have HG23x0 := hJ (show wl1.heap.size ≤ wl1.heap.size by omega)
   have HL23x0 := hJ (show wl1.heap.size < x23.heap.size from HQ23x0.out.lt)
   have HO24 := hJ (show OwnR noU x23 wl1.heap.size 25 2 (.slice (some ⟨wl1.heap.size, 0, none⟩) 0 0) 0 [] from OwnR.of_lit HQ23x0.out HG23x0.out (by decide) rfl rfl)
   have HOXw2 := hJ (OwnR.new HOX.out HB23.out)
   go_wp2_with (at_builtin; refine wpList_append_okv noU rfl _ _ 23 rfl wl1.heap.size 25 i25 _ 2 16 Try.underlying23 HT25.out.1 HT25.out.2.1 HT25.out.2.2.1 HT25.out.2.2.2 rfl rfl (by decide) (.slice (some ⟨wl1.heap.size, 0, none⟩) 0 0) 0 [] rfl HO24.out ⟨gx, 0, none⟩ 4 cpx [.int .i64 px0_1, .int .i64 py0_1, .int .i64 px1_1, .int .i64 py1_1, .int .i64 px2_1, .int .i64 py2_1, .int .i64 px3_1, .int .i64 py3_1] rfl rfl (OwnR.news HOXw2.out) (List.all_eq_true (p := Value.oneCell')|>.1 rfl) rfl (by unfold maxLen; omega) (by omega) (HB23.out).size (by decide) ?_; intro va wa hown hgrow; refine stop_hereU (fun q HSTP => ?_))
   clear hx23
   rw [HSTP.out]
   clear HSTP q
   have hown : OwnR noU wa wl1.heap.size 25 2 va 4 [.int .i64 px0_1, .int .i64 py0_1, .int .i64 px1_1, .int .i64 py1_1, .int .i64 px2_1, .int .i64 py2_1, .int .i64 px3_1, .int .i64 py3_1] := hown
   obtain ⟨ga25, cp25, rfl, hg1, hg2, hcap, _⟩ := hown.row (by decide)
   obtain ⟨w25, rfl⟩ : ∃ W, W = wa := ⟨_, rfl⟩
   have HO25 := hJ (show OwnR noU w25 wl1.heap.size 25 2 (.slice (some ⟨ga25, 0, none⟩) 4 cp25) 4 [.int .i64 px0_1, .int .i64 py0_1, .int .i64 px1_1, .int .i64 py1_1, .int .i64 px2_1, .int .i64 py2_1, .int .i64 px3_1, .int .i64 py3_1] from hown)
   have HG25 := hJ hg1
   have HL25 := hJ hg2
   have HW25 := hJ hgrow
   have HN25 := hJ (show 4 ≤ cp25 from hcap)
   clear hown hg1 hg2 hgrow hcap
   go_wp2_with fail
   refine (aroundz_any wi 4 w25 (by decide) (by decide) HWI.out).mono ?_
   rw [HKA.out.1]
   rintro e w26 ⟨rfl, rfl⟩
   have hk4 := HKA.out.2
   obtain ⟨vx19, vy19, h0, h1, h2⟩ : ∃ (vx19 vy19 : Int), ([.int .i64 px0_1, .int .i64 py0_1, .int .i64 px1_1, .int .i64 py1_1, .int .i64 px2_1, .int .i64 py2_1, .int .i64 px3_1, .int .i64 py3_1] : List Value)[ka * 2]? = some (.int .i64 vx19) ∧ ([.int .i64 px0_1, .int .i64 py0_1, .int .i64 px1_1, .int .i64 py1_1, .int .i64 px2_1, .int .i64 py2_1, .int .i64 px3_1, .int .i64 py3_1] : List Value)[ka * 2 + 1]? = some (.int .i64 vy19) ∧ Co vx19 ∧ Co vy19 := by
    have hcs : ka = 0 ∨ ka = 1 ∨ ka = 2 ∨ ka = 3 := by omega
    rcases hcs with rfl | rfl | rfl | rfl
    ·exact ⟨_, _, rfl, rfl, HPR0.out⟩
    ·exact ⟨_, _, rfl, rfl, HPR1.out⟩
    ·exact ⟨_, _, rfl, rfl, HPR2.out⟩
    ·exact ⟨_, _, rfl, rfl, HPR3.out⟩
   have HS19_0 := hJ h0
   have HS19_1 := hJ h1
   have HPV19 := hJ h2
   clear h0 h1 h2
   clear hk4
   have hm2 : (0 : Int) ≤ (ka : Int) := by omega
   have hm3 : (ka : Int) < 4 := by have := HKA.out.2; omega
   have cl27 := HO25.out.at (ka * 2) HS19_0.out
   have cl28 := HO25.out.at (ka * 2 + 1) HS19_1.out
   go_wp2_with fail
   clear cl27 cl28
   refine (bent_any vx19 vy19 hw by0 w25 (co_i6 HPV19.out).1 (co_i6 HPV19.out).2 HHW.out HBY.out).mono ?_
   rintro e w29 ⟨x20, y20, rfl, hx20, hy20, hb⟩
   have HB29 := hJ hb
   clear hb
   have HIX20 := hJ (And.intro hx20 hy20)
   clear hx20 hy20
   have HO25w4 := hJ (OwnR.new HO25.out HB29.out)
   have fz30_0 := OwnR.frz HO25w4.out (ka * 2)
   have fc30_0 := HO25w4.out.at (ka * 2) HS19_0.out
   have fz30_1 := OwnR.frz HO25w4.out (ka * 2 + 1)
   have fc30_1 := HO25w4.out.at (ka * 2 + 1) HS19_1.out
   obtain ⟨x30, hx30⟩ := nmz (World.setCell (World.setCell w29 ⟨ga25, ka * 2, none⟩ (.int .i64 x20)) ⟨ga25, ka * 2 + 1, none⟩ (.int .i64 y20))
   have HE30 := hJ (show sto w29 ga25 (ka * 2) [.int .i64 x20, .int .i64 y20] = x30 from hx30)
   have HQ30r := hJ (show OwnR noU x30 wl1.heap.size 25 2 (.slice (some ⟨ga25, 0, none⟩) 4 cp25) 4 (setL [.int .i64 px0_1, .int .i64 py0_1, .int .i64 px1_1, .int .i64 py1_1, .int .i64 px2_1, .int .i64 py2_1, .int .i64 px3_1, .int .i64 py3_1] (ka * 2) [.int .i64 x20, .int .i64 y20]) by rw [← HE30.out]; exact OwnR.sto HO25w4.out _ _ rfl)
   obtain ⟨u0, v0, u1, v1, u2, v2, u3, v3, he, hP, hr0, hr1⟩ : ∃ u0 v0 u1 v1 u2 v2 u3 v3 : Int, setL [.int .i64 px0_1, .int .i64 py0_1, .int .i64 px1_1, .int .i64 py1_1, .int .i64 px2_1, .int .i64 py2_1, .int .i64 px3_1, .int .i64 py3_1] (ka * 2) [.int .i64 x20, .int .i64 y20] = [.int .i64 u0, .int .i64 v0, .int .i64 u1, .int .i64 v1, .int .i64 u2, .int .i64 v2, .int .i64 u3, .int .i64 v3] ∧ BadP u0 v0 u1 v1 u2 v2 u3 v3 x20 y20 (ka : Int) ∧ ([.int .i64 u0, .int .i64 v0, .int .i64 u1, .int .i64 v1, .int .i64 u2, .int .i64 v2, .int .i64 u3, .int .i64 v3] : List Value)[ka * 2]? = some (.int .i64 x20) ∧ ([.int .i64 u0, .int .i64 v0, .int .i64 u1, .int .i64 v1, .int .i64 u2, .int .i64 v2, .int .i64 u3, .int .i64 v3] : List Value)[ka * 2 + 1]? = some (.int .i64 y20) := by
    have hcs : ka = 0 ∨ ka = 1 ∨ ka = 2 ∨ ka = 3 := by have := HKA.out.2; omega
    rcases hcs with rfl | rfl | rfl | rfl
    ·exact ⟨_, _, _, _, _, _, _, _, rfl, badP_0 (x0 := px0_1) (y0 := py0_1) (x1 := px1_1) (y1 := py1_1) (x2 := px2_1) (y2 := py2_1) (x3 := px3_1) (y3 := py3_1) (vd_co HPR1.out) (vd_co HPR2.out) (vd_co HPR3.out), rfl, rfl⟩
    ·exact ⟨_, _, _, _, _, _, _, _, rfl, badP_1 (x0 := px0_1) (y0 := py0_1) (x1 := px1_1) (y1 := py1_1) (x2 := px2_1) (y2 := py2_1) (x3 := px3_1) (y3 := py3_1) (vd_co HPR0.out) (vd_co HPR2.out) (vd_co HPR3.out), rfl, rfl⟩
    ·exact ⟨_, _, _, _, _, _, _, _, rfl, badP_2 (x0 := px0_1) (y0 := py0_1) (x1 := px1_1) (y1 := py1_1) (x2 := px2_1) (y2 := py2_1) (x3 := px3_1) (y3 := py3_1) (vd_co HPR0.out) (vd_co HPR1.out) (vd_co HPR3.out), rfl, rfl⟩
    ·exact ⟨_, _, _, _, _, _, _, _, rfl, badP_3 (x0 := px0_1) (y0 := py0_1) (x1 := px1_1) (y1 := py1_1) (x2 := px2_1) (y2 := py2_1) (x3 := px3_1) (y3 := py3_1) (vd_co HPR0.out) (vd_co HPR1.out) (vd_co HPR2.out), rfl, rfl⟩
   have HRE30 := hJ he
   have HBP := hJ hP
   have HR0 := hJ hr0
   have HR1 := hJ hr1
   clear he hP hr0 hr1
   have HQ30s := hJ (show OwnR noU x30 wl1.heap.size 25 2 (.slice (some ⟨ga25, 0, none⟩) 4 cp25) 4 [.int .i64 u0, .int .i64 v0, .int .i64 u1, .int .i64 v1, .int .i64 u2, .int .i64 v2, .int .i64 u3, .int .i64 v3] from (by have h := HQ30r.out; rw [HRE30.out] at h; exact h))
   obtain ⟨K, hK⟩ := nmz (crV px0_1 py0_1 px1_1 py1_1 px2_1 py2_1 px3_1 py3_1)
   obtain ⟨E, hE⟩ := nmz (crE px0_1 py0_1 px1_1 py1_1 px2_1 py2_1 px3_1 py3_1)
   have HKK := hJ hK
   have HEE := hJ hE
   clear hK hE
   obtain ⟨x31, hx31⟩ := nmz (x30.alloc (.cells #[.int .i64 0, .int .i64 1, .int .i64 2, .int .i64 1, .int .i64 2, .int .i64 0, .int .i64 2, .int .i64 0, .int .i64 1, .int .i64 1, .int .i64 0, .int .i64 2, .int .i64 0, .int .i64 2, .int .i64 1, .int .i64 2, .int .i64 1, .int .i64 0] 30))
   have HB31 := hJ (show Below x30.heap.size x30 x31 by rw [← hx31]; exact ((Below.refl _ _).alloc (Nat.le_refl _) _))
   have HQ31x0 := hJ (show BX 30 x31 x30.heap.size #[.int .i64 0, .int .i64 1, .int .i64 2, .int .i64 1, .int .i64 2, .int .i64 0, .int .i64 2, .int .i64 0, .int .i64 1, .int .i64 1, .int .i64 0, .int .i64 2, .int .i64 0, .int .i64 2, .int .i64 1, .int .i64 2, .int .i64 1, .int .i64 0] by rw [← hx31]; exact (BX.at rfl))
   have HG31x0 := hJ (show x30.heap.size ≤ x30.heap.size by omega)
   have HL31x0 := hJ (show x30.heap.size < x31.heap.size from HQ31x0.out.lt)
   have HOXw3 := hJ (show OwnR noU w25 w.heap.size 25 2 (.slice (some ⟨gx, 0, none⟩) 4 cpx) 4 [.int .i64 px0_1, .int .i64 py0_1, .int .i64 px1_1, .int .i64 py1_1, .int .i64 px2_1, .int .i64 py2_1, .int .i64 px3_1, .int .i64 py3_1] from OwnR.grow HOXw2.out HW25.out (fun g hg => by simp only [Value.ownBlock, Option.some.injEq] at hg; subst hg; exact (at_own (show wl1.heap.size ≠ gx by have h1 := HLX.out; have h2 := HG23x0.out; have h3 := ((Below.refl wl1.heap.size wl1)).size; omega))))
   have HOXw4 := hJ (OwnR.new HOXw3.out HB29.out)
   have HOXw5 := hJ (show OwnR noU x30 w.heap.size 25 2 (.slice (some ⟨gx, 0, none⟩) 4 cpx) 4 [.int .i64 px0_1, .int .i64 py0_1, .int .i64 px1_1, .int .i64 py1_1, .int .i64 px2_1, .int .i64 py2_1, .int .i64 px3_1, .int .i64 py3_1] by rw [← HE30.out]; exact OwnR.far HOXw4.out (at_own (show gx ≠ ga25 by have h1 := HLX.out; have h2 := HG25.out; have h3 := ((Below.refl wl1.heap.size wl1)).size; omega)) _ _)
   have HOXw6 := hJ (OwnR.new HOXw5.out HB31.out)
   have HS32 : Hid (∀ w', Below x31.heap.size x31 w' → (fun w' : World => w'.cell? ⟨gx, 0, none⟩ = some (.int .i64 px0_1) ∧ w'.cell? ⟨gx, 1, none⟩ = some (.int .i64 py0_1) ∧ w'.cell? ⟨gx, 2, none⟩ = some (.int .i64 px1_1) ∧ w'.cell? ⟨gx, 3, none⟩ = some (.int .i64 py1_1) ∧ w'.cell? ⟨gx, 4, none⟩ = some (.int .i64 px2_1) ∧ w'.cell? ⟨gx, 5, none⟩ = some (.int .i64 py2_1) ∧ w'.cell? ⟨gx, 6, none⟩ = some (.int .i64 px3_1) ∧ w'.cell? ⟨gx, 7, none⟩ = some (.int .i64 py3_1) ∧ Below x31.heap.size x31 w') w') := hJ (fun w' hb => ⟨(OwnR.new HOXw6.out hb).at 0 rfl, (OwnR.new HOXw6.out hb).at 1 rfl, (OwnR.new HOXw6.out hb).at 2 rfl, (OwnR.new HOXw6.out hb).at 3 rfl, (OwnR.new HOXw6.out hb).at 4 rfl, (OwnR.new HOXw6.out hb).at 5 rfl, (OwnR.new HOXw6.out hb).at 6 rfl, (OwnR.new HOXw6.out hb).at 7 rfl, hb⟩)
   go_wp2_with fail
   clear fz30_0 fc30_0 fz30_1 fc30_1 hx30 hx31
   obtain ⟨v32, hv32⟩ := nmz (World.drew x31)
   have HX32 := hJ (show Below x31.heap.size x31 v32 by rw [← hv32]; exact (Below.refl _ _).drew)
   refine wp_region_held_drew (S := (fun w' : World => w'.cell? ⟨gx, 0, none⟩ = some (.int .i64 px0_1) ∧ w'.cell? ⟨gx, 1, none⟩ = some (.int .i64 py0_1) ∧ w'.cell? ⟨gx, 2, none⟩ = some (.int .i64 px1_1) ∧ w'.cell? ⟨gx, 3, none⟩ = some (.int .i64 py1_1) ∧ w'.cell? ⟨gx, 4, none⟩ = some (.int .i64 px2_1) ∧ w'.cell? ⟨gx, 5, none⟩ = some (.int .i64 py2_1) ∧ w'.cell? ⟨gx, 6, none⟩ = some (.int .i64 px3_1) ∧ w'.cell? ⟨gx, 7, none⟩ = some (.int .i64 py3_1) ∧ Below x31.heap.size x31 w')) (by kernel_rfl) ?_ (fun hHeld => ?_)
   ·rw [hv32]
    exact HS32.out _ HX32.out
   rw [hv32] at hHeld ⊢
   clear hv32
   refine tq 0 ?_
   try simp only [PT]
   refine tq 1 ?_
   try simp only [PT]
   refine tq 2 ?_
   try simp only [PT]
   refine tq 3 ?_
   try simp only [PT]
   refine tq 4 ?_
   try simp only [PT]
   refine tq 5 ?_
   try simp only [PT]
   refine tq 6 ?_
   try simp only [PT]
   refine tq 7 ?_
   try simp only [PT]
   refine tq 8 ?_
   try simp only [PT]
   refine tq 9 ?_
   try simp only [PT]
   refine tq 10 ?_
   try simp only [PT]
   refine tq 11 ?_
   try simp only [PT]
   refine wpAnyH_ready (rs := [12]) (by kernel_rfl) (by simp) ?_
   refine .cons rfl (fun K hK => ?_) .nil
   go_simp
   go_at_call 9
   refine (rcircle_any px0_1 py0_1 px1_1 py1_1 px2_1 py2_1 px3_1 py3_1 v32 HPR0.out HPR1.out HPR2.out HPR3.out).mono ?_
   rw [HKK.out, HEE.out]
   rintro e v33 ⟨rfl, hb⟩
   have HB33 := hJ hb
   clear hb
   go_wp2_with fail
   have HX33 := hJ (bt HX32.out HB33.out)
   clear hHeld
   refine hK.out _ _ (HS32.out _ HX33.out) (fun hHeld => ?_)
   clear hK K
   try simp only [PT]
   refine tq 13 ?_
   try simp only [PT]
   refine tq 14 ?_
   try simp only [PT]
   refine tq 15 ?_
   try simp only [PT]
   refine tq 16 ?_
   try simp only [PT]
   refine tq 17 ?_
   try simp only [PT]
   refine wpAnyH_done (by kernel_rfl) ?_ _
   clear hHeld
   go_wp2_with fail
   go_loopw [16] (fun tv wr => ∃ i : Nat, i ≤ 6 ∧ tv = .int .i64 (i : Int) ∧ Below v33.heap.size v33 wr) (fun tv _ => 6 - (intOf tv).toNat)
   case atStart => exact ⟨0, by omega, rfl, Below.refl _ _⟩
   case round =>
    obtain ⟨i34, hi, rfl, hbel⟩ := hrel
    obtain ⟨wl34, rfl⟩ : ∃ W : World, W = wr := ⟨_, rfl⟩
    have HB34 := hJ hbel
    clear hbel
    have hcs : i34 = 0 ∨ i34 = 1 ∨ i34 = 2 ∨ i34 = 3 ∨ i34 = 4 ∨ i34 = 5 ∨ i34 = 6 := by omega
    clear hi
    rcases hcs with rfl | rfl | rfl | rfl | rfl | rfl | rfl
    ·(try rw [show ((0 : Nat) : Int) = 0 from rfl])
     have HC6_8 := hJ (bt HX33.out HB34.out)
     have HQ31x0w8 := hJ (BX.new HQ31x0.out HC6_8.out)
     have cl35 := HQ31x0w8.out.cell 0 rfl
     have cl36 := HQ31x0w8.out.cell 1 rfl
     have cl37 := HQ31x0w8.out.cell 2 rfl
     obtain ⟨x38, hx38⟩ := nmz (wl34.alloc (.cells #[.int .i64 0, .int .i64 1, .int .i64 2] 30))
     have HB38 := hJ (show Below wl34.heap.size wl34 x38 by rw [← hx38]; exact ((Below.refl _ _).alloc (Nat.le_refl _) _))
     have HQ38x0 := hJ (show BX 30 x38 wl34.heap.size #[.int .i64 0, .int .i64 1, .int .i64 2] by rw [← hx38]; exact (BX.at rfl))
     have HG38x0 := hJ (show wl34.heap.size ≤ wl34.heap.size by omega)
     have HL38x0 := hJ (show wl34.heap.size < x38.heap.size from HQ38x0.out.lt)
     have HC6_9 := hJ (bt HC6_8.out HB38.out)
     have HOXw9 := hJ (OwnR.new HOXw6.out HC6_9.out)
     have HS39 : Hid (∀ w', Below x38.heap.size x38 w' → (fun w' : World => w'.cell? ⟨wl34.heap.size, 0, none⟩ = some (.int .i64 0) ∧ w'.cell? ⟨gx, 0, none⟩ = some (.int .i64 px0_1) ∧ w'.cell? ⟨gx, 1, none⟩ = some (.int .i64 py0_1) ∧ w'.cell? ⟨wl34.heap.size, 1, none⟩ = some (.int .i64 1) ∧ w'.cell? ⟨gx, 2, none⟩ = some (.int .i64 px1_1) ∧ w'.cell? ⟨gx, 3, none⟩ = some (.int .i64 py1_1) ∧ w'.cell? ⟨wl34.heap.size, 2, none⟩ = some (.int .i64 2) ∧ w'.cell? ⟨gx, 4, none⟩ = some (.int .i64 px2_1) ∧ w'.cell? ⟨gx, 5, none⟩ = some (.int .i64 py2_1) ∧ w'.cell? ⟨gx, 6, none⟩ = some (.int .i64 px3_1) ∧ w'.cell? ⟨gx, 7, none⟩ = some (.int .i64 py3_1) ∧ Below x38.heap.size x38 w') w') := hJ (fun w' hb => ⟨(BX.new HQ38x0.out hb).cell 0 rfl, (OwnR.new HOXw9.out hb).at 0 rfl, (OwnR.new HOXw9.out hb).at 1 rfl, (BX.new HQ38x0.out hb).cell 1 rfl, (OwnR.new HOXw9.out hb).at 2 rfl, (OwnR.new HOXw9.out hb).at 3 rfl, (BX.new HQ38x0.out hb).cell 2 rfl, (OwnR.new HOXw9.out hb).at 4 rfl, (OwnR.new HOXw9.out hb).at 5 rfl, (OwnR.new HOXw9.out hb).at 6 rfl, (OwnR.new HOXw9.out hb).at 7 rfl, hb⟩)
     go_wp2_with fail
     clear cl35 cl36 cl37 hx38
     obtain ⟨v39, hv39⟩ := nmz (World.drew x38)
     have HX39 := hJ (show Below x38.heap.size x38 v39 by rw [← hv39]; exact (Below.refl _ _).drew)
     refine wp_region_held_drew (S := (fun w' : World => w'.cell? ⟨wl34.heap.size, 0, none⟩ = some (.int .i64 0) ∧ w'.cell? ⟨gx, 0, none⟩ = some (.int .i64 px0_1) ∧ w'.cell? ⟨gx, 1, none⟩ = some (.int .i64 py0_1) ∧ w'.cell? ⟨wl34.heap.size, 1, none⟩ = some (.int .i64 1) ∧ w'.cell? ⟨gx, 2, none⟩ = some (.int .i64 px1_1) ∧ w'.cell? ⟨gx, 3, none⟩ = some (.int .i64 py1_1) ∧ w'.cell? ⟨wl34.heap.size, 2, none⟩ = some (.int .i64 2) ∧ w'.cell? ⟨gx, 4, none⟩ = some (.int .i64 px2_1) ∧ w'.cell? ⟨gx, 5, none⟩ = some (.int .i64 py2_1) ∧ w'.cell? ⟨gx, 6, none⟩ = some (.int .i64 px3_1) ∧ w'.cell? ⟨gx, 7, none⟩ = some (.int .i64 py3_1) ∧ Below x38.heap.size x38 w')) (by kernel_rfl) ?_ (fun hHeld => ?_)
     ·rw [hv39]
      exact HS39.out _ HX39.out
     rw [hv39] at hHeld ⊢
     clear hv39
     refine tq 0 ?_
     try simp only [PT]
     refine tq 1 ?_
     try simp only [PT]
     refine tq 2 ?_
     try simp only [PT]
     refine tq 3 ?_
     try simp only [PT]
     refine tq 4 ?_
     try simp only [PT]
     refine tq 5 ?_
     try simp only [PT]
     refine tq 6 ?_
     try simp only [PT]
     refine tq 7 ?_
     try simp only [PT]
     refine tq 8 ?_
     try simp only [PT]
     refine tq 9 ?_
     try simp only [PT]
     refine tq 10 ?_
     try simp only [PT]
     refine tq 11 ?_
     try simp only [PT]
     refine tq 12 ?_
     try simp only [PT]
     refine tq 13 ?_
     try simp only [PT]
     refine tq 14 ?_
     try simp only [PT]
     refine tq 15 ?_
     try simp only [PT]
     refine tq 16 ?_
     try simp only [PT]
     refine tq 17 ?_
     try simp only [PT]
     refine wpAnyH_ready (rs := [18]) (by kernel_rfl) (by simp) ?_
     refine .cons rfl (fun K hK => ?_) .nil
     go_simp
     go_at_call 10
     refine (circle_any px0_1 py0_1 px1_1 py1_1 px2_1 py2_1 px3_1 py3_1 v39).mono ?_
     rw [HKK.out, HEE.out]
     rintro e v40 ⟨rfl, hb⟩
     have HB40 := hJ hb
     clear hb
     go_wp2_with fail
     have HX40 := hJ (bt HX39.out HB40.out)
     clear hHeld
     refine hK.out _ _ (HS39.out _ HX40.out) (fun hHeld => ?_)
     clear hK K
     try simp only [PT]
     refine tq 19 ?_
     try simp only [PT]
     refine tq 20 ?_
     try simp only [PT]
     refine tq 21 ?_
     try simp only [PT]
     refine tq 22 ?_
     try simp only [PT]
     refine tq 23 ?_
     try simp only [PT]
     refine wpAnyH_done (by kernel_rfl) ?_ _
     clear hHeld
     have HC7_10 := hJ (bt (bt HB34.out HB38.out) HX40.out)
     go_wp2_with fail
     go_roundw
     case rel => exact ⟨0 + 1, by omega, by go_num, HC7_10.out⟩
     case measure => simp [intOf] <;> omega
    ·(try rw [show ((1 : Nat) : Int) = 1 from rfl])
     have HC6_8 := hJ (bt HX33.out HB34.out)
     have HQ31x0w8 := hJ (BX.new HQ31x0.out HC6_8.out)
     have cl41 := HQ31x0w8.out.cell 3 rfl
     have cl42 := HQ31x0w8.out.cell 4 rfl
     have cl43 := HQ31x0w8.out.cell 5 rfl
     obtain ⟨x44, hx44⟩ := nmz (wl34.alloc (.cells #[.int .i64 0, .int .i64 0, .int .i64 0] 30))
     have HB44 := hJ (show Below wl34.heap.size wl34 x44 by rw [← hx44]; exact ((Below.refl _ _).alloc (Nat.le_refl _) _))
     have HQ44x0 := hJ (show BX 30 x44 wl34.heap.size #[.int .i64 0, .int .i64 0, .int .i64 0] by rw [← hx44]; exact (BX.at rfl))
     have HG44x0 := hJ (show wl34.heap.size ≤ wl34.heap.size by omega)
     have HL44x0 := hJ (show wl34.heap.size < x44.heap.size from HQ44x0.out.lt)
     have fz45_0 := HQ44x0.out.frozen 0
     have fc45_0 := HQ44x0.out.cell 0 rfl
     have fz45_1 := HQ44x0.out.frozen 1
     have fc45_1 := HQ44x0.out.cell 1 rfl
     have fz45_2 := HQ44x0.out.frozen 2
     have fc45_2 := HQ44x0.out.cell 2 rfl
     obtain ⟨x45, hx45⟩ := nmz (World.setCell (World.setCell (World.setCell x44 ⟨wl34.heap.size, 0, none⟩ (.int .i64 1)) ⟨wl34.heap.size, 1, none⟩ (.int .i64 2)) ⟨wl34.heap.size, 2, none⟩ (.int .i64 0))
     have HE45 := hJ (show sto x44 wl34.heap.size 0 [.int .i64 1, .int .i64 2, .int .i64 0] = x45 from hx45)
     have HQ45s := hJ (show BX 30 x45 wl34.heap.size #[.int .i64 1, .int .i64 2, .int .i64 0] by rw [← HE45.out]; exact BX.put HQ44x0.out _ _)
     have HC6_10 := hJ (show Below x31.heap.size x31 x45 by rw [← HE45.out]; exact below_sto (bt HC6_8.out HB44.out) (Nat.le_trans (HC6_8.out).size HG44x0.out) _ _)
     have HOXw10 := hJ (OwnR.new HOXw6.out HC6_10.out)
     have HS46 : Hid (∀ w', Below x45.heap.size x45 w' → (fun w' : World => w'.cell? ⟨wl34.heap.size, 0, none⟩ = some (.int .i64 1) ∧ w'.cell? ⟨gx, 2, none⟩ = some (.int .i64 px1_1) ∧ w'.cell? ⟨gx, 3, none⟩ = some (.int .i64 py1_1) ∧ w'.cell? ⟨wl34.heap.size, 1, none⟩ = some (.int .i64 2) ∧ w'.cell? ⟨gx, 4, none⟩ = some (.int .i64 px2_1) ∧ w'.cell? ⟨gx, 5, none⟩ = some (.int .i64 py2_1) ∧ w'.cell? ⟨wl34.heap.size, 2, none⟩ = some (.int .i64 0) ∧ w'.cell? ⟨gx, 0, none⟩ = some (.int .i64 px0_1) ∧ w'.cell? ⟨gx, 1, none⟩ = some (.int .i64 py0_1) ∧ w'.cell? ⟨gx, 6, none⟩ = some (.int .i64 px3_1) ∧ w'.cell? ⟨gx, 7, none⟩ = some (.int .i64 py3_1) ∧ Below x45.heap.size x45 w') w') := hJ (fun w' hb => ⟨(BX.new HQ45s.out hb).cell 0 rfl, (OwnR.new HOXw10.out hb).at 2 rfl, (OwnR.new HOXw10.out hb).at 3 rfl, (BX.new HQ45s.out hb).cell 1 rfl, (OwnR.new HOXw10.out hb).at 4 rfl, (OwnR.new HOXw10.out hb).at 5 rfl, (BX.new HQ45s.out hb).cell 2 rfl, (OwnR.new HOXw10.out hb).at 0 rfl, (OwnR.new HOXw10.out hb).at 1 rfl, (OwnR.new HOXw10.out hb).at 6 rfl, (OwnR.new HOXw10.out hb).at 7 rfl, hb⟩)
     go_wp2_with fail
     clear cl41 cl42 cl43 hx44 fz45_0 fc45_0 fz45_1 fc45_1 fz45_2 fc45_2 hx45
     obtain ⟨v46, hv46⟩ := nmz (World.drew x45)
     have HX46 := hJ (show Below x45.heap.size x45 v46 by rw [← hv46]; exact (Below.refl _ _).drew)
     refine wp_region_held_drew (S := (fun w' : World => w'.cell? ⟨wl34.heap.size, 0, none⟩ = some (.int .i64 1) ∧ w'.cell? ⟨gx, 2, none⟩ = some (.int .i64 px1_1) ∧ w'.cell? ⟨gx, 3, none⟩ = some (.int .i64 py1_1) ∧ w'.cell? ⟨wl34.heap.size, 1, none⟩ = some (.int .i64 2) ∧ w'.cell? ⟨gx, 4, none⟩ = some (.int .i64 px2_1) ∧ w'.cell? ⟨gx, 5, none⟩ = some (.int .i64 py2_1) ∧ w'.cell? ⟨wl34.heap.size, 2, none⟩ = some (.int .i64 0) ∧ w'.cell? ⟨gx, 0, none⟩ = some (.int .i64 px0_1) ∧ w'.cell? ⟨gx, 1, none⟩ = some (.int .i64 py0_1) ∧ w'.cell? ⟨gx, 6, none⟩ = some (.int .i64 px3_1) ∧ w'.cell? ⟨gx, 7, none⟩ = some (.int .i64 py3_1) ∧ Below x45.heap.size x45 w')) (by kernel_rfl) ?_ (fun hHeld => ?_)
     ·rw [hv46]
      exact HS46.out _ HX46.out
     rw [hv46] at hHeld ⊢
     clear hv46
     refine tq 0 ?_
     try simp only [PT]
     refine tq 1 ?_
     try simp only [PT]
     refine tq 2 ?_
     try simp only [PT]
     refine tq 3 ?_
     try simp only [PT]
     refine tq 4 ?_
     try simp only [PT]
     refine tq 5 ?_
     try simp only [PT]
     refine tq 6 ?_
     try simp only [PT]
     refine tq 7 ?_
     try simp only [PT]
     refine tq 8 ?_
     try simp only [PT]
     refine tq 9 ?_
     try simp only [PT]
     refine tq 10 ?_
     try simp only [PT]
     refine tq 11 ?_
     try simp only [PT]
     refine tq 12 ?_
     try simp only [PT]
     refine tq 13 ?_
     try simp only [PT]
     refine tq 14 ?_
     try simp only [PT]
     refine tq 15 ?_
     try simp only [PT]
     refine tq 16 ?_
     try simp only [PT]
     refine tq 17 ?_
     try simp only [PT]
     refine wpAnyH_ready (rs := [18]) (by kernel_rfl) (by simp) ?_
     refine .cons rfl (fun K hK => ?_) .nil
     go_simp
     go_at_call 10
     refine (circle_any px1_1 py1_1 px2_1 py2_1 px0_1 py0_1 px3_1 py3_1 v46).mono ?_
     rw [(cr_c (vd_co HPR0.out) (vd_co HPR1.out) (vd_co HPR2.out) (vd_co HPR3.out)).1, HKK.out, (cr_c (vd_co HPR0.out) (vd_co HPR1.out) (vd_co HPR2.out) (vd_co HPR3.out)).2, HEE.out]
     rintro e v47 ⟨rfl, hb⟩
     have HB47 := hJ hb
     clear hb
     go_wp2_with fail
     have HX47 := hJ (bt HX46.out HB47.out)
     clear hHeld
     refine hK.out _ _ (HS46.out _ HX47.out) (fun hHeld => ?_)
     clear hK K
     try simp only [PT]
     refine tq 19 ?_
     try simp only [PT]
     refine tq 20 ?_
     try simp only [PT]
     refine tq 21 ?_
     try simp only [PT]
     refine tq 22 ?_
     try simp only [PT]
     refine tq 23 ?_
     try simp only [PT]
     refine wpAnyH_done (by kernel_rfl) ?_ _
     clear hHeld
     have HC7_10 := hJ (show Below v33.heap.size v33 x45 by rw [← HE45.out]; exact below_sto (bt HB34.out HB44.out) (Nat.le_trans (HB34.out).size HG44x0.out) _ _)
     have HC7_11 := hJ (bt HC7_10.out HX47.out)
     go_wp2_with fail
     go_roundw
     case rel => exact ⟨1 + 1, by omega, by go_num, HC7_11.out⟩
     case measure => simp [intOf] <;> omega
    ·(try rw [show ((2 : Nat) : Int) = 2 from rfl])
     have HC6_8 := hJ (bt HX33.out HB34.out)
     have HQ31x0w8 := hJ (BX.new HQ31x0.out HC6_8.out)
     have cl48 := HQ31x0w8.out.cell 6 rfl
     have cl49 := HQ31x0w8.out.cell 7 rfl
     have cl50 := HQ31x0w8.out.cell 8 rfl
     obtain ⟨x51, hx51⟩ := nmz (wl34.alloc (.cells #[.int .i64 2, .int .i64 0, .int .i64 1] 30))
     have HB51 := hJ (show Below wl34.heap.size wl34 x51 by rw [← hx51]; exact ((Below.refl _ _).alloc (Nat.le_refl _) _))
     have HQ51x0 := hJ (show BX 30 x51 wl34.heap.size #[.int .i64 2, .int .i64 0, .int .i64 1] by rw [← hx51]; exact (BX.at rfl))
     have HG51x0 := hJ (show wl34.heap.size ≤ wl34.heap.size by omega)
     have HL51x0 := hJ (show wl34.heap.size < x51.heap.size from HQ51x0.out.lt)
     have HC6_9 := hJ (bt HC6_8.out HB51.out)
     have HOXw9 := hJ (OwnR.new HOXw6.out HC6_9.out)
     have HS52 : Hid (∀ w', Below x51.heap.size x51 w' → (fun w' : World => w'.cell? ⟨wl34.heap.size, 0, none⟩ = some (.int .i64 2) ∧ w'.cell? ⟨gx, 4, none⟩ = some (.int .i64 px2_1) ∧ w'.cell? ⟨gx, 5, none⟩ = some (.int .i64 py2_1) ∧ w'.cell? ⟨wl34.heap.size, 1, none⟩ = some (.int .i64 0) ∧ w'.cell? ⟨gx, 0, none⟩ = some (.int .i64 px0_1) ∧ w'.cell? ⟨gx, 1, none⟩ = some (.int .i64 py0_1) ∧ w'.cell? ⟨wl34.heap.size, 2, none⟩ = some (.int .i64 1) ∧ w'.cell? ⟨gx, 2, none⟩ = some (.int .i64 px1_1) ∧ w'.cell? ⟨gx, 3, none⟩ = some (.int .i64 py1_1) ∧ w'.cell? ⟨gx, 6, none⟩ = some (.int .i64 px3_1) ∧ w'.cell? ⟨gx, 7, none⟩ = some (.int .i64 py3_1) ∧ Below x51.heap.size x51 w') w') := hJ (fun w' hb => ⟨(BX.new HQ51x0.out hb).cell 0 rfl, (OwnR.new HOXw9.out hb).at 4 rfl, (OwnR.new HOXw9.out hb).at 5 rfl, (BX.new HQ51x0.out hb).cell 1 rfl, (OwnR.new HOXw9.out hb).at 0 rfl, (OwnR.new HOXw9.out hb).at 1 rfl, (BX.new HQ51x0.out hb).cell 2 rfl, (OwnR.new HOXw9.out hb).at 2 rfl, (OwnR.new HOXw9.out hb).at 3 rfl, (OwnR.new HOXw9.out hb).at 6 rfl, (OwnR.new HOXw9.out hb).at 7 rfl, hb⟩)
     go_wp2_with fail
     clear cl48 cl49 cl50 hx51
     obtain ⟨v52, hv52⟩ := nmz (World.drew x51)
     have HX52 := hJ (show Below x51.heap.size x51 v52 by rw [← hv52]; exact (Below.refl _ _).drew)
     refine wp_region_held_drew (S := (fun w' : World => w'.cell? ⟨wl34.heap.size, 0, none⟩ = some (.int .i64 2) ∧ w'.cell? ⟨gx, 4, none⟩ = some (.int .i64 px2_1) ∧ w'.cell? ⟨gx, 5, none⟩ = some (.int .i64 py2_1) ∧ w'.cell? ⟨wl34.heap.size, 1, none⟩ = some (.int .i64 0) ∧ w'.cell? ⟨gx, 0, none⟩ = some (.int .i64 px0_1) ∧ w'.cell? ⟨gx, 1, none⟩ = some (.int .i64 py0_1) ∧ w'.cell? ⟨wl34.heap.size, 2, none⟩ = some (.int .i64 1) ∧ w'.cell? ⟨gx, 2, none⟩ = some (.int .i64 px1_1) ∧ w'.cell? ⟨gx, 3, none⟩ = some (.int .i64 py1_1) ∧ w'.cell? ⟨gx, 6, none⟩ = some (.int .i64 px3_1) ∧ w'.cell? ⟨gx, 7, none⟩ = some (.int .i64 py3_1) ∧ Below x51.heap.size x51 w')) (by kernel_rfl) ?_ (fun hHeld => ?_)
     ·rw [hv52]
      exact HS52.out _ HX52.out
     rw [hv52] at hHeld ⊢
     clear hv52
     refine tq 0 ?_
     try simp only [PT]
     refine tq 1 ?_
     try simp only [PT]
     refine tq 2 ?_
     try simp only [PT]
     refine tq 3 ?_
     try simp only [PT]
     refine tq 4 ?_
     try simp only [PT]
     refine tq 5 ?_
     try simp only [PT]
     refine tq 6 ?_
     try simp only [PT]
     refine tq 7 ?_
     try simp only [PT]
     refine tq 8 ?_
     try simp only [PT]
     refine tq 9 ?_
     try simp only [PT]
     refine tq 10 ?_
     try simp only [PT]
     refine tq 11 ?_
     try simp only [PT]
     refine tq 12 ?_
     try simp only [PT]
     refine tq 13 ?_
     try simp only [PT]
     refine tq 14 ?_
     try simp only [PT]
     refine tq 15 ?_
     try simp only [PT]
     refine tq 16 ?_
     try simp only [PT]
     refine tq 17 ?_
     try simp only [PT]
     refine wpAnyH_ready (rs := [18]) (by kernel_rfl) (by simp) ?_
     refine .cons rfl (fun K hK => ?_) .nil
     go_simp
     go_at_call 10
     refine (circle_any px2_1 py2_1 px0_1 py0_1 px1_1 py1_1 px3_1 py3_1 v52).mono ?_
     rw [(cr_c (vd_co HPR1.out) (vd_co HPR2.out) (vd_co HPR0.out) (vd_co HPR3.out)).1, (cr_c (vd_co HPR0.out) (vd_co HPR1.out) (vd_co HPR2.out) (vd_co HPR3.out)).1, HKK.out, (cr_c (vd_co HPR1.out) (vd_co HPR2.out) (vd_co HPR0.out) (vd_co HPR3.out)).2, (cr_c (vd_co HPR0.out) (vd_co HPR1.out) (vd_co HPR2.out) (vd_co HPR3.out)).2, HEE.out]
     rintro e v53 ⟨rfl, hb⟩
     have HB53 := hJ hb
     clear hb
     go_wp2_with fail
     have HX53 := hJ (bt HX52.out HB53.out)
     clear hHeld
     refine hK.out _ _ (HS52.out _ HX53.out) (fun hHeld => ?_)
     clear hK K
     try simp only [PT]
     refine tq 19 ?_
     try simp only [PT]
     refine tq 20 ?_
     try simp only [PT]
     refine tq 21 ?_
     try simp only [PT]
     refine tq 22 ?_
     try simp only [PT]
     refine tq 23 ?_
     try simp only [PT]
     refine wpAnyH_done (by kernel_rfl) ?_ _
     clear hHeld
     have HC7_10 := hJ (bt (bt HB34.out HB51.out) HX53.out)
     go_wp2_with fail
     go_roundw
     case rel => exact ⟨2 + 1, by omega, by go_num, HC7_10.out⟩
     case measure => simp [intOf] <;> omega
    ·(try rw [show ((3 : Nat) : Int) = 3 from rfl])
     have HC6_8 := hJ (bt HX33.out HB34.out)
     have HQ31x0w8 := hJ (BX.new HQ31x0.out HC6_8.out)
     have cl54 := HQ31x0w8.out.cell 9 rfl
     have cl55 := HQ31x0w8.out.cell 10 rfl
     have cl56 := HQ31x0w8.out.cell 11 rfl
     obtain ⟨x57, hx57⟩ := nmz (wl34.alloc (.cells #[.int .i64 1, .int .i64 0, .int .i64 2] 30))
     have HB57 := hJ (show Below wl34.heap.size wl34 x57 by rw [← hx57]; exact ((Below.refl _ _).alloc (Nat.le_refl _) _))
     have HQ57x0 := hJ (show BX 30 x57 wl34.heap.size #[.int .i64 1, .int .i64 0, .int .i64 2] by rw [← hx57]; exact (BX.at rfl))
     have HG57x0 := hJ (show wl34.heap.size ≤ wl34.heap.size by omega)
     have HL57x0 := hJ (show wl34.heap.size < x57.heap.size from HQ57x0.out.lt)
     have HC6_9 := hJ (bt HC6_8.out HB57.out)
     have HOXw9 := hJ (OwnR.new HOXw6.out HC6_9.out)
     have HS58 : Hid (∀ w', Below x57.heap.size x57 w' → (fun w' : World => w'.cell? ⟨wl34.heap.size, 0, none⟩ = some (.int .i64 1) ∧ w'.cell? ⟨gx, 2, none⟩ = some (.int .i64 px1_1) ∧ w'.cell? ⟨gx, 3, none⟩ = some (.int .i64 py1_1) ∧ w'.cell? ⟨wl34.heap.size, 1, none⟩ = some (.int .i64 0) ∧ w'.cell? ⟨gx, 0, none⟩ = some (.int .i64 px0_1) ∧ w'.cell? ⟨gx, 1, none⟩ = some (.int .i64 py0_1) ∧ w'.cell? ⟨wl34.heap.size, 2, none⟩ = some (.int .i64 2) ∧ w'.cell? ⟨gx, 4, none⟩ = some (.int .i64 px2_1) ∧ w'.cell? ⟨gx, 5, none⟩ = some (.int .i64 py2_1) ∧ w'.cell? ⟨gx, 6, none⟩ = some (.int .i64 px3_1) ∧ w'.cell? ⟨gx, 7, none⟩ = some (.int .i64 py3_1) ∧ Below x57.heap.size x57 w') w') := hJ (fun w' hb => ⟨(BX.new HQ57x0.out hb).cell 0 rfl, (OwnR.new HOXw9.out hb).at 2 rfl, (OwnR.new HOXw9.out hb).at 3 rfl, (BX.new HQ57x0.out hb).cell 1 rfl, (OwnR.new HOXw9.out hb).at 0 rfl, (OwnR.new HOXw9.out hb).at 1 rfl, (BX.new HQ57x0.out hb).cell 2 rfl, (OwnR.new HOXw9.out hb).at 4 rfl, (OwnR.new HOXw9.out hb).at 5 rfl, (OwnR.new HOXw9.out hb).at 6 rfl, (OwnR.new HOXw9.out hb).at 7 rfl, hb⟩)
     go_wp2_with fail
     clear cl54 cl55 cl56 hx57
     obtain ⟨v58, hv58⟩ := nmz (World.drew x57)
     have HX58 := hJ (show Below x57.heap.size x57 v58 by rw [← hv58]; exact (Below.refl _ _).drew)
     refine wp_region_held_drew (S := (fun w' : World => w'.cell? ⟨wl34.heap.size, 0, none⟩ = some (.int .i64 1) ∧ w'.cell? ⟨gx, 2, none⟩ = some (.int .i64 px1_1) ∧ w'.cell? ⟨gx, 3, none⟩ = some (.int .i64 py1_1) ∧ w'.cell? ⟨wl34.heap.size, 1, none⟩ = some (.int .i64 0) ∧ w'.cell? ⟨gx, 0, none⟩ = some (.int .i64 px0_1) ∧ w'.cell? ⟨gx, 1, none⟩ = some (.int .i64 py0_1) ∧ w'.cell? ⟨wl34.heap.size, 2, none⟩ = some (.int .i64 2) ∧ w'.cell? ⟨gx, 4, none⟩ = some (.int .i64 px2_1) ∧ w'.cell? ⟨gx, 5, none⟩ = some (.int .i64 py2_1) ∧ w'.cell? ⟨gx, 6, none⟩ = some (.int .i64 px3_1) ∧ w'.cell? ⟨gx, 7, none⟩ = some (.int .i64 py3_1) ∧ Below x57.heap.size x57 w')) (by kernel_rfl) ?_ (fun hHeld => ?_)
     ·rw [hv58]
      exact HS58.out _ HX58.out
     rw [hv58] at hHeld ⊢
     clear hv58
     refine tq 0 ?_
     try simp only [PT]
     refine tq 1 ?_
     try simp only [PT]
     refine tq 2 ?_
     try simp only [PT]
     refine tq 3 ?_
     try simp only [PT]
     refine tq 4 ?_
     try simp only [PT]
     refine tq 5 ?_
     try simp only [PT]
     refine tq 6 ?_
     try simp only [PT]
     refine tq 7 ?_
     try simp only [PT]
     refine tq 8 ?_
     try simp only [PT]
     refine tq 9 ?_
     try simp only [PT]
     refine tq 10 ?_
     try simp only [PT]
     refine tq 11 ?_
     try simp only [PT]
     refine tq 12 ?_
     try simp only [PT]
     refine tq 13 ?_
     try simp only [PT]
     refine tq 14 ?_
     try simp only [PT]
     refine tq 15 ?_
     try simp only [PT]
     refine tq 16 ?_
     try simp only [PT]
     refine tq 17 ?_
     try simp only [PT]
     refine wpAnyH_ready (rs := [18]) (by kernel_rfl) (by simp) ?_
     refine .cons rfl (fun K hK => ?_) .nil
     go_simp
     go_at_call 10
     refine (circle_any px1_1 py1_1 px0_1 py0_1 px2_1 py2_1 px3_1 py3_1 v58).mono ?_
     rw [(cr_s (vd_co HPR0.out) (vd_co HPR1.out) (vd_co HPR2.out) (vd_co HPR3.out)).1, HKK.out, (cr_s (vd_co HPR0.out) (vd_co HPR1.out) (vd_co HPR2.out) (vd_co HPR3.out)).2, HEE.out]
     rintro e v59 ⟨rfl, hb⟩
     have HB59 := hJ hb
     clear hb
     go_wp2_with fail
     have HX59 := hJ (bt HX58.out HB59.out)
     clear hHeld
     refine hK.out _ _ (HS58.out _ HX59.out) (fun hHeld => ?_)
     clear hK K
     try simp only [PT]
     refine tq 19 ?_
     try simp only [PT]
     refine tq 20 ?_
     try simp only [PT]
     refine tq 21 ?_
     try simp only [PT]
     refine tq 22 ?_
     try simp only [PT]
     refine tq 23 ?_
     try simp only [PT]
     refine wpAnyH_done (by kernel_rfl) ?_ _
     clear hHeld
     have HC7_10 := hJ (bt (bt HB34.out HB57.out) HX59.out)
     go_wp2_with fail
     go_roundw
     case rel => exact ⟨3 + 1, by omega, by go_num, HC7_10.out⟩
     case measure => simp [intOf] <;> omega
    ·(try rw [show ((4 : Nat) : Int) = 4 from rfl])
     have HC6_8 := hJ (bt HX33.out HB34.out)
     have HQ31x0w8 := hJ (BX.new HQ31x0.out HC6_8.out)
     have cl60 := HQ31x0w8.out.cell 12 rfl
     have cl61 := HQ31x0w8.out.cell 13 rfl
     have cl62 := HQ31x0w8.out.cell 14 rfl
     obtain ⟨x63, hx63⟩ := nmz (wl34.alloc (.cells #[.int .i64 0, .int .i64 2, .int .i64 1] 30))
     have HB63 := hJ (show Below wl34.heap.size wl34 x63 by rw [← hx63]; exact ((Below.refl _ _).alloc (Nat.le_refl _) _))
     have HQ63x0 := hJ (show BX 30 x63 wl34.heap.size #[.int .i64 0, .int .i64 2, .int .i64 1] by rw [← hx63]; exact (BX.at rfl))
     have HG63x0 := hJ (show wl34.heap.size ≤ wl34.heap.size by omega)
     have HL63x0 := hJ (show wl34.heap.size < x63.heap.size from HQ63x0.out.lt)
     have HC6_9 := hJ (bt HC6_8.out HB63.out)
     have HOXw9 := hJ (OwnR.new HOXw6.out HC6_9.out)
     have HS64 : Hid (∀ w', Below x63.heap.size x63 w' → (fun w' : World => w'.cell? ⟨wl34.heap.size, 0, none⟩ = some (.int .i64 0) ∧ w'.cell? ⟨gx, 0, none⟩ = some (.int .i64 px0_1) ∧ w'.cell? ⟨gx, 1, none⟩ = some (.int .i64 py0_1) ∧ w'.cell? ⟨wl34.heap.size, 1, none⟩ = some (.int .i64 2) ∧ w'.cell? ⟨gx, 4, none⟩ = some (.int .i64 px2_1) ∧ w'.cell? ⟨gx, 5, none⟩ = some (.int .i64 py2_1) ∧ w'.cell? ⟨wl34.heap.size, 2, none⟩ = some (.int .i64 1) ∧ w'.cell? ⟨gx, 2, none⟩ = some (.int .i64 px1_1) ∧ w'.cell? ⟨gx, 3, none⟩ = some (.int .i64 py1_1) ∧ w'.cell? ⟨gx, 6, none⟩ = some (.int .i64 px3_1) ∧ w'.cell? ⟨gx, 7, none⟩ = some (.int .i64 py3_1) ∧ Below x63.heap.size x63 w') w') := hJ (fun w' hb => ⟨(BX.new HQ63x0.out hb).cell 0 rfl, (OwnR.new HOXw9.out hb).at 0 rfl, (OwnR.new HOXw9.out hb).at 1 rfl, (BX.new HQ63x0.out hb).cell 1 rfl, (OwnR.new HOXw9.out hb).at 4 rfl, (OwnR.new HOXw9.out hb).at 5 rfl, (BX.new HQ63x0.out hb).cell 2 rfl, (OwnR.new HOXw9.out hb).at 2 rfl, (OwnR.new HOXw9.out hb).at 3 rfl, (OwnR.new HOXw9.out hb).at 6 rfl, (OwnR.new HOXw9.out hb).at 7 rfl, hb⟩)
     go_wp2_with fail
     clear cl60 cl61 cl62 hx63
     obtain ⟨v64, hv64⟩ := nmz (World.drew x63)
     have HX64 := hJ (show Below x63.heap.size x63 v64 by rw [← hv64]; exact (Below.refl _ _).drew)
     refine wp_region_held_drew (S := (fun w' : World => w'.cell? ⟨wl34.heap.size, 0, none⟩ = some (.int .i64 0) ∧ w'.cell? ⟨gx, 0, none⟩ = some (.int .i64 px0_1) ∧ w'.cell? ⟨gx, 1, none⟩ = some (.int .i64 py0_1) ∧ w'.cell? ⟨wl34.heap.size, 1, none⟩ = some (.int .i64 2) ∧ w'.cell? ⟨gx, 4, none⟩ = some (.int .i64 px2_1) ∧ w'.cell? ⟨gx, 5, none⟩ = some (.int .i64 py2_1) ∧ w'.cell? ⟨wl34.heap.size, 2, none⟩ = some (.int .i64 1) ∧ w'.cell? ⟨gx, 2, none⟩ = some (.int .i64 px1_1) ∧ w'.cell? ⟨gx, 3, none⟩ = some (.int .i64 py1_1) ∧ w'.cell? ⟨gx, 6, none⟩ = some (.int .i64 px3_1) ∧ w'.cell? ⟨gx, 7, none⟩ = some (.int .i64 py3_1) ∧ Below x63.heap.size x63 w')) (by kernel_rfl) ?_ (fun hHeld => ?_)
     ·rw [hv64]
      exact HS64.out _ HX64.out
     rw [hv64] at hHeld ⊢
     clear hv64
     refine tq 0 ?_
     try simp only [PT]
     refine tq 1 ?_
     try simp only [PT]
     refine tq 2 ?_
     try simp only [PT]
     refine tq 3 ?_
     try simp only [PT]
     refine tq 4 ?_
     try simp only [PT]
     refine tq 5 ?_
     try simp only [PT]
     refine tq 6 ?_
     try simp only [PT]
     refine tq 7 ?_
     try simp only [PT]
     refine tq 8 ?_
     try simp only [PT]
     refine tq 9 ?_
     try simp only [PT]
     refine tq 10 ?_
     try simp only [PT]
     refine tq 11 ?_
     try simp only [PT]
     refine tq 12 ?_
     try simp only [PT]
     refine tq 13 ?_
     try simp only [PT]
     refine tq 14 ?_
     try simp only [PT]
     refine tq 15 ?_
     try simp only [PT]
     refine tq 16 ?_
     try simp only [PT]
     refine tq 17 ?_
     try simp only [PT]
     refine wpAnyH_ready (rs := [18]) (by kernel_rfl) (by simp) ?_
     refine .cons rfl (fun K hK => ?_) .nil
     go_simp
     go_at_call 10
     refine (circle_any px0_1 py0_1 px2_1 py2_1 px1_1 py1_1 px3_1 py3_1 v64).mono ?_
     rw [(cr_c (vd_co HPR1.out) (vd_co HPR0.out) (vd_co HPR2.out) (vd_co HPR3.out)).1, (cr_s (vd_co HPR0.out) (vd_co HPR1.out) (vd_co HPR2.out) (vd_co HPR3.out)).1, HKK.out, (cr_c (vd_co HPR1.out) (vd_co HPR0.out) (vd_co HPR2.out) (vd_co HPR3.out)).2, (cr_s (vd_co HPR0.out) (vd_co HPR1.out) (vd_co HPR2.out) (vd_co HPR3.out)).2, HEE.out]
     rintro e v65 ⟨rfl, hb⟩
     have HB65 := hJ hb
     clear hb
     go_wp2_with fail
     have HX65 := hJ (bt HX64.out HB65.out)
     clear hHeld
     refine hK.out _ _ (HS64.out _ HX65.out) (fun hHeld => ?_)
     clear hK K
     try simp only [PT]
     refine tq 19 ?_
     try simp only [PT]
     refine tq 20 ?_
     try simp only [PT]
     refine tq 21 ?_
     try simp only [PT]
     refine tq 22 ?_
     try simp only [PT]
     refine tq 23 ?_
     try simp only [PT]
     refine wpAnyH_done (by kernel_rfl) ?_ _
     clear hHeld
     have HC7_10 := hJ (bt (bt HB34.out HB63.out) HX65.out)
     go_wp2_with fail
     go_roundw
     case rel => exact ⟨4 + 1, by omega, by go_num, HC7_10.out⟩
     case measure => simp [intOf] <;> omega
    ·(try rw [show ((5 : Nat) : Int) = 5 from rfl])
     have HC6_8 := hJ (bt HX33.out HB34.out)
     have HQ31x0w8 := hJ (BX.new HQ31x0.out HC6_8.out)
     have cl66 := HQ31x0w8.out.cell 15 rfl
     have cl67 := HQ31x0w8.out.cell 16 rfl
     have cl68 := HQ31x0w8.out.cell 17 rfl
     obtain ⟨x69, hx69⟩ := nmz (wl34.alloc (.cells #[.int .i64 0, .int .i64 0, .int .i64 0] 30))
     have HB69 := hJ (show Below wl34.heap.size wl34 x69 by rw [← hx69]; exact ((Below.refl _ _).alloc (Nat.le_refl _) _))
     have HQ69x0 := hJ (show BX 30 x69 wl34.heap.size #[.int .i64 0, .int .i64 0, .int .i64 0] by rw [← hx69]; exact (BX.at rfl))
     have HG69x0 := hJ (show wl34.heap.size ≤ wl34.heap.size by omega)
     have HL69x0 := hJ (show wl34.heap.size < x69.heap.size from HQ69x0.out.lt)
     have fz70_0 := HQ69x0.out.frozen 0
     have fc70_0 := HQ69x0.out.cell 0 rfl
     have fz70_1 := HQ69x0.out.frozen 1
     have fc70_1 := HQ69x0.out.cell 1 rfl
     have fz70_2 := HQ69x0.out.frozen 2
     have fc70_2 := HQ69x0.out.cell 2 rfl
     obtain ⟨x70, hx70⟩ := nmz (World.setCell (World.setCell (World.setCell x69 ⟨wl34.heap.size, 0, none⟩ (.int .i64 2)) ⟨wl34.heap.size, 1, none⟩ (.int .i64 1)) ⟨wl34.heap.size, 2, none⟩ (.int .i64 0))
     have HE70 := hJ (show sto x69 wl34.heap.size 0 [.int .i64 2, .int .i64 1, .int .i64 0] = x70 from hx70)
     have HQ70s := hJ (show BX 30 x70 wl34.heap.size #[.int .i64 2, .int .i64 1, .int .i64 0] by rw [← HE70.out]; exact BX.put HQ69x0.out _ _)
     have HC6_10 := hJ (show Below x31.heap.size x31 x70 by rw [← HE70.out]; exact below_sto (bt HC6_8.out HB69.out) (Nat.le_trans (HC6_8.out).size HG69x0.out) _ _)
     have HOXw10 := hJ (OwnR.new HOXw6.out HC6_10.out)
     have HS71 : Hid (∀ w', Below x70.heap.size x70 w' → (fun w' : World => w'.cell? ⟨wl34.heap.size, 0, none⟩ = some (.int .i64 2) ∧ w'.cell? ⟨gx, 4, none⟩ = some (.int .i64 px2_1) ∧ w'.cell? ⟨gx, 5, none⟩ = some (.int .i64 py2_1) ∧ w'.cell? ⟨wl34.heap.size, 1, none⟩ = some (.int .i64 1) ∧ w'.cell? ⟨gx, 2, none⟩ = some (.int .i64 px1_1) ∧ w'.cell? ⟨gx, 3, none⟩ = some (.int .i64 py1_1) ∧ w'.cell? ⟨wl34.heap.size, 2, none⟩ = some (.int .i64 0) ∧ w'.cell? ⟨gx, 0, none⟩ = some (.int .i64 px0_1) ∧ w'.cell? ⟨gx, 1, none⟩ = some (.int .i64 py0_1) ∧ w'.cell? ⟨gx, 6, none⟩ = some (.int .i64 px3_1) ∧ w'.cell? ⟨gx, 7, none⟩ = some (.int .i64 py3_1) ∧ Below x70.heap.size x70 w') w') := hJ (fun w' hb => ⟨(BX.new HQ70s.out hb).cell 0 rfl, (OwnR.new HOXw10.out hb).at 4 rfl, (OwnR.new HOXw10.out hb).at 5 rfl, (BX.new HQ70s.out hb).cell 1 rfl, (OwnR.new HOXw10.out hb).at 2 rfl, (OwnR.new HOXw10.out hb).at 3 rfl, (BX.new HQ70s.out hb).cell 2 rfl, (OwnR.new HOXw10.out hb).at 0 rfl, (OwnR.new HOXw10.out hb).at 1 rfl, (OwnR.new HOXw10.out hb).at 6 rfl, (OwnR.new HOXw10.out hb).at 7 rfl, hb⟩)
     go_wp2_with fail
     clear cl66 cl67 cl68 hx69 fz70_0 fc70_0 fz70_1 fc70_1 fz70_2 fc70_2 hx70
     obtain ⟨v71, hv71⟩ := nmz (World.drew x70)
     have HX71 := hJ (show Below x70.heap.size x70 v71 by rw [← hv71]; exact (Below.refl _ _).drew)
     refine wp_region_held_drew (S := (fun w' : World => w'.cell? ⟨wl34.heap.size, 0, none⟩ = some (.int .i64 2) ∧ w'.cell? ⟨gx, 4, none⟩ = some (.int .i64 px2_1) ∧ w'.cell? ⟨gx, 5, none⟩ = some (.int .i64 py2_1) ∧ w'.cell? ⟨wl34.heap.size, 1, none⟩ = some (.int .i64 1) ∧ w'.cell? ⟨gx, 2, none⟩ = some (.int .i64 px1_1) ∧ w'.cell? ⟨gx, 3, none⟩ = some (.int .i64 py1_1) ∧ w'.cell? ⟨wl34.heap.size, 2, none⟩ = some (.int .i64 0) ∧ w'.cell? ⟨gx, 0, none⟩ = some (.int .i64 px0_1) ∧ w'.cell? ⟨gx, 1, none⟩ = some (.int .i64 py0_1) ∧ w'.cell? ⟨gx, 6, none⟩ = some (.int .i64 px3_1) ∧ w'.cell? ⟨gx, 7, none⟩ = some (.int .i64 py3_1) ∧ Below x70.heap.size x70 w')) (by kernel_rfl) ?_ (fun hHeld => ?_)
     ·rw [hv71]
      exact HS71.out _ HX71.out
     rw [hv71] at hHeld ⊢
     clear hv71
     refine tq 0 ?_
     try simp only [PT]
     refine tq 1 ?_
     try simp only [PT]
     refine tq 2 ?_
     try simp only [PT]
     refine tq 3 ?_
     try simp only [PT]
     refine tq 4 ?_
     try simp only [PT]
     refine tq 5 ?_
     try simp only [PT]
     refine tq 6 ?_
     try simp only [PT]
     refine tq 7 ?_
     try simp only [PT]
     refine tq 8 ?_
     try simp only [PT]
     refine tq 9 ?_
     try simp only [PT]
     refine tq 10 ?_
     try simp only [PT]
     refine tq 11 ?_
     try simp only [PT]
     refine tq 12 ?_
     try simp only [PT]
     refine tq 13 ?_
     try simp only [PT]
     refine tq 14 ?_
     try simp only [PT]
     refine tq 15 ?_
     try simp only [PT]
     refine tq 16 ?_
     try simp only [PT]
     refine tq 17 ?_
     try simp only [PT]
     refine wpAnyH_ready (rs := [18]) (by kernel_rfl) (by simp) ?_
     refine .cons rfl (fun K hK => ?_) .nil
     go_simp
     go_at_call 10
     refine (circle_any px2_1 py2_1 px1_1 py1_1 px0_1 py0_1 px3_1 py3_1 v71).mono ?_
     rw [(cr_c (vd_co HPR0.out) (vd_co HPR2.out) (vd_co HPR1.out) (vd_co HPR3.out)).1, (cr_c (vd_co HPR1.out) (vd_co HPR0.out) (vd_co HPR2.out) (vd_co HPR3.out)).1, (cr_s (vd_co HPR0.out) (vd_co HPR1.out) (vd_co HPR2.out) (vd_co HPR3.out)).1, HKK.out, (cr_c (vd_co HPR0.out) (vd_co HPR2.out) (vd_co HPR1.out) (vd_co HPR3.out)).2, (cr_c (vd_co HPR1.out) (vd_co HPR0.out) (vd_co HPR2.out) (vd_co HPR3.out)).2, (cr_s (vd_co HPR0.out) (vd_co HPR1.out) (vd_co HPR2.out) (vd_co HPR3.out)).2, HEE.out]
     rintro e v72 ⟨rfl, hb⟩
     have HB72 := hJ hb
     clear hb
     go_wp2_with fail
     have HX72 := hJ (bt HX71.out HB72.out)
     clear hHeld
     refine hK.out _ _ (HS71.out _ HX72.out) (fun hHeld => ?_)
     clear hK K
     try simp only [PT]
     refine tq 19 ?_
     try simp only [PT]
     refine tq 20 ?_
     try simp only [PT]
     refine tq 21 ?_
     try simp only [PT]
     refine tq 22 ?_
     try simp only [PT]
     refine tq 23 ?_
     try simp only [PT]
     refine wpAnyH_done (by kernel_rfl) ?_ _
     clear hHeld
     have HC7_10 := hJ (show Below v33.heap.size v33 x70 by rw [← HE70.out]; exact below_sto (bt HB34.out HB69.out) (Nat.le_trans (HB34.out).size HG69x0.out) _ _)
     have HC7_11 := hJ (bt HC7_10.out HX72.out)
     go_wp2_with fail
     go_roundw
     case rel => exact ⟨5 + 1, by omega, by go_num, HC7_11.out⟩
     case measure => simp [intOf] <;> omega
    ·(try rw [show ((6 : Nat) : Int) = 6 from rfl])
     obtain ⟨E1, hE1⟩ := nmz (crE u0 v0 u1 v1 u2 v2 u3 v3)
     obtain ⟨E2, hE2⟩ := nmz (soE u0 v0 u1 v1 u2 v2)
     have HE1 := hJ hE1
     have HE2 := hJ hE2
     clear hE1 hE2
     have HC5_8 := hJ (bt (bt HB31.out HX33.out) HB34.out)
     have HQ30sw8 := hJ (OwnR.new HQ30s.out HC5_8.out)
     have HS73 : Hid (∀ w', Below wl34.heap.size wl34 w' → (fun w' : World => w'.cell? ⟨ga25, 0, none⟩ = some (.int .i64 u0) ∧ w'.cell? ⟨ga25, 1, none⟩ = some (.int .i64 v0) ∧ w'.cell? ⟨ga25, 2, none⟩ = some (.int .i64 u1) ∧ w'.cell? ⟨ga25, 3, none⟩ = some (.int .i64 v1) ∧ w'.cell? ⟨ga25, 4, none⟩ = some (.int .i64 u2) ∧ w'.cell? ⟨ga25, 5, none⟩ = some (.int .i64 v2) ∧ w'.cell? ⟨ga25, 6, none⟩ = some (.int .i64 u3) ∧ w'.cell? ⟨ga25, 7, none⟩ = some (.int .i64 v3) ∧ Below wl34.heap.size wl34 w') w') := hJ (fun w' hb => ⟨(OwnR.new HQ30sw8.out hb).at 0 rfl, (OwnR.new HQ30sw8.out hb).at 1 rfl, (OwnR.new HQ30sw8.out hb).at 2 rfl, (OwnR.new HQ30sw8.out hb).at 3 rfl, (OwnR.new HQ30sw8.out hb).at 4 rfl, (OwnR.new HQ30sw8.out hb).at 5 rfl, (OwnR.new HQ30sw8.out hb).at 6 rfl, (OwnR.new HQ30sw8.out hb).at 7 rfl, hb⟩)
     go_wp2_with fail
     obtain ⟨v73, hv73⟩ := nmz (World.drew wl34)
     have HX73 := hJ (show Below wl34.heap.size wl34 v73 by rw [← hv73]; exact (Below.refl _ _).drew)
     refine wp_region_held_drew (S := (fun w' : World => w'.cell? ⟨ga25, 0, none⟩ = some (.int .i64 u0) ∧ w'.cell? ⟨ga25, 1, none⟩ = some (.int .i64 v0) ∧ w'.cell? ⟨ga25, 2, none⟩ = some (.int .i64 u1) ∧ w'.cell? ⟨ga25, 3, none⟩ = some (.int .i64 v1) ∧ w'.cell? ⟨ga25, 4, none⟩ = some (.int .i64 u2) ∧ w'.cell? ⟨ga25, 5, none⟩ = some (.int .i64 v2) ∧ w'.cell? ⟨ga25, 6, none⟩ = some (.int .i64 u3) ∧ w'.cell? ⟨ga25, 7, none⟩ = some (.int .i64 v3) ∧ Below wl34.heap.size wl34 w')) (by kernel_rfl) ?_ (fun hHeld => ?_)
     ·rw [hv73]
      exact HS73.out _ HX73.out
     rw [hv73] at hHeld ⊢
     clear hv73
     refine tq 0 ?_
     try simp only [PT]
     refine tq 1 ?_
     try simp only [PT]
     refine tq 2 ?_
     try simp only [PT]
     refine tq 3 ?_
     try simp only [PT]
     refine tq 4 ?_
     try simp only [PT]
     refine tq 5 ?_
     try simp only [PT]
     refine tq 6 ?_
     try simp only [PT]
     refine tq 7 ?_
     try simp only [PT]
     refine tq 8 ?_
     try simp only [PT]
     refine tq 9 ?_
     try simp only [PT]
     refine tq 10 ?_
     try simp only [PT]
     refine tq 11 ?_
     try simp only [PT]
     refine wpAnyH_ready (rs := [12]) (by kernel_rfl) (by simp) ?_
     refine .cons rfl (fun K hK => ?_) .nil
     go_simp
     go_at_call 10
     refine (circle_any u0 v0 u1 v1 u2 v2 u3 v3 v73).mono ?_
     rw [HE1.out]
     rintro e v74 ⟨rfl, hb⟩
     have HB74 := hJ hb
     clear hb
     go_wp2_with fail
     have HX74 := hJ (bt HX73.out HB74.out)
     clear hHeld
     refine hK.out _ _ (HS73.out _ HX74.out) (fun hHeld => ?_)
     clear hK K
     try simp only [PT]
     refine tq 13 ?_
     try simp only [PT]
     refine tq 14 ?_
     try simp only [PT]
     refine tq 15 ?_
     try simp only [PT]
     refine tq 16 ?_
     try simp only [PT]
     refine tq 17 ?_
     try simp only [PT]
     refine wpAnyH_done (by kernel_rfl) ?_ _
     clear hHeld
     have HQ30sw9 := hJ (OwnR.new HQ30sw8.out HX74.out)
     have HS75 : Hid (∀ w', Below v74.heap.size v74 w' → (fun w' : World => w'.cell? ⟨ga25, 0, none⟩ = some (.int .i64 u0) ∧ w'.cell? ⟨ga25, 1, none⟩ = some (.int .i64 v0) ∧ w'.cell? ⟨ga25, 2, none⟩ = some (.int .i64 u1) ∧ w'.cell? ⟨ga25, 3, none⟩ = some (.int .i64 v1) ∧ w'.cell? ⟨ga25, 4, none⟩ = some (.int .i64 u2) ∧ w'.cell? ⟨ga25, 5, none⟩ = some (.int .i64 v2) ∧ Below v74.heap.size v74 w') w') := hJ (fun w' hb => ⟨(OwnR.new HQ30sw9.out hb).at 0 rfl, (OwnR.new HQ30sw9.out hb).at 1 rfl, (OwnR.new HQ30sw9.out hb).at 2 rfl, (OwnR.new HQ30sw9.out hb).at 3 rfl, (OwnR.new HQ30sw9.out hb).at 4 rfl, (OwnR.new HQ30sw9.out hb).at 5 rfl, hb⟩)
     go_wp2_with fail
     obtain ⟨v75, hv75⟩ := nmz (World.drew v74)
     have HX75 := hJ (show Below v74.heap.size v74 v75 by rw [← hv75]; exact (Below.refl _ _).drew)
     refine wp_region_held_drew (S := (fun w' : World => w'.cell? ⟨ga25, 0, none⟩ = some (.int .i64 u0) ∧ w'.cell? ⟨ga25, 1, none⟩ = some (.int .i64 v0) ∧ w'.cell? ⟨ga25, 2, none⟩ = some (.int .i64 u1) ∧ w'.cell? ⟨ga25, 3, none⟩ = some (.int .i64 v1) ∧ w'.cell? ⟨ga25, 4, none⟩ = some (.int .i64 u2) ∧ w'.cell? ⟨ga25, 5, none⟩ = some (.int .i64 v2) ∧ Below v74.heap.size v74 w')) (by kernel_rfl) ?_ (fun hHeld => ?_)
     ·rw [hv75]
      exact HS75.out _ HX75.out
     rw [hv75] at hHeld ⊢
     clear hv75
     refine tq 0 ?_
     try simp only [PT]
     refine tq 1 ?_
     try simp only [PT]
     refine tq 2 ?_
     try simp only [PT]
     refine tq 3 ?_
     try simp only [PT]
     refine tq 4 ?_
     try simp only [PT]
     refine tq 5 ?_
     try simp only [PT]
     refine tq 6 ?_
     try simp only [PT]
     refine tq 7 ?_
     try simp only [PT]
     refine tq 8 ?_
     try simp only [PT]
     refine wpAnyH_ready (rs := [9]) (by kernel_rfl) (by simp) ?_
     refine .cons rfl (fun K hK => ?_) .nil
     go_simp
     go_at_call 11
     refine (sideof_any u0 v0 u1 v1 u2 v2 v75).mono ?_
     rw [HE2.out]
     rintro e v76 ⟨rfl, hb⟩
     have HB76 := hJ hb
     clear hb
     go_wp2_with fail
     have HX76 := hJ (bt HX75.out HB76.out)
     clear hHeld
     refine hK.out _ _ (HS75.out _ HX76.out) (fun hHeld => ?_)
     clear hK K
     try simp only [PT]
     refine tq 10 ?_
     try simp only [PT]
     refine tq 11 ?_
     try simp only [PT]
     refine tq 12 ?_
     try simp only [PT]
     refine tq 13 ?_
     try simp only [PT]
     refine tq 14 ?_
     try simp only [PT]
     refine wpAnyH_done (by kernel_rfl) ?_ _
     clear hHeld
     obtain ⟨G, hG⟩ := nmz (vdP (x20, y20))
     have HGV := hJ hG
     clear hG
     have hm2 : (0 : Int) ≤ (ka : Int) := by omega
     have hm3 : (ka : Int) < 4 := by have := HKA.out.2; omega
     rcases (show (G = 0) ∨ (¬ G = 0 ∧ (ka : Int) < 3) ∨ (¬ G = 0 ∧ ¬ (ka : Int) < 3) by omega) with q0 | ⟨q0, q⟩ | ⟨q0, q⟩
     ·have hG0 : (G == 0) = true := by simp [q0]
      clear q0
      have hB := HBP.out
      unfold BadP at hB
      rw [HE1.out, HE2.out, HGV.out] at hB
      have q2 : (E1 == 5) = false := by rw [hB.1, hG0]; rfl
      have q3 : (E2 == 5) = false := by rw [hB.2, hG0]; first | rfl | (rw [decide_eq_true q]; rfl) | (rw [decide_eq_false q]; rfl)
      clear hB
      have HQ30sw10 := hJ (OwnR.new HQ30sw9.out HX76.out)
      have cl77 := HQ30sw10.out.at (ka * 2) HR0.out
      have cl78 := HQ30sw10.out.at (ka * 2 + 1) HR1.out
      go_wp2_with fail
      clear cl77 cl78
      refine (good_any x20 y20 v76).mono ?_
      rw [show vdC x20 y20 = G from HGV.out]
      rintro e w79 ⟨rfl, hb⟩
      have HB79 := hJ hb
      clear hb
      go_wp2_with fail
      refine (lives6_any w79).mono ?_
      rintro e w80 ⟨rfl, hb⟩
      have HB80 := hJ hb
      clear hb
      have HC0_3 := hJ (show Below w.heap.size w w25 from Grew.below (bt HB1.out HB23.out) HW25.out HO24.out (HB1.out).size ((bt HB1.out HB23.out)).size)
      have HC0_5 := hJ (show Below w.heap.size w x30 by rw [← HE30.out]; exact below_sto (bt HC0_3.out HB29.out) (Nat.le_trans (HB1.out).size HG25.out) _ _)
      have HC0_12 := hJ (bt (bt (bt (bt (bt (bt (bt HC0_5.out HB31.out) HX33.out) HB34.out) HX74.out) HX76.out) HB79.out) HB80.out)
      go_wp2
      go_ret
      exact ⟨by first | rfl | exact congrArg (fun z => Ending.returned (.bool z)) (by simp <;> omega), HC0_12.out⟩
     ·have hG0 : (G == 0) = false := by simp [q0]
      clear q0
      have hB := HBP.out
      unfold BadP at hB
      rw [HE1.out, HE2.out, HGV.out] at hB
      have q2 : (E1 == 5) = true := by rw [hB.1, hG0]; rfl
      have q3 : (E2 == 5) = true := by rw [hB.2, hG0]; first | rfl | (rw [decide_eq_true q]; rfl) | (rw [decide_eq_false q]; rfl)
      clear hB
      have HQ30sw10 := hJ (OwnR.new HQ30sw9.out HX76.out)
      have cl81 := HQ30sw10.out.at (ka * 2) HR0.out
      have cl82 := HQ30sw10.out.at (ka * 2 + 1) HR1.out
      go_wp2_with fail
      clear cl81 cl82
      refine (good_any x20 y20 v76).mono ?_
      rw [show vdC x20 y20 = G from HGV.out]
      rintro e w83 ⟨rfl, hb⟩
      have HB83 := hJ hb
      clear hb
      go_wp2_with fail
      refine (lives6_any w83).mono ?_
      rintro e w84 ⟨rfl, hb⟩
      have HB84 := hJ hb
      clear hb
      have HC0_3 := hJ (show Below w.heap.size w w25 from Grew.below (bt HB1.out HB23.out) HW25.out HO24.out (HB1.out).size ((bt HB1.out HB23.out)).size)
      have HC0_5 := hJ (show Below w.heap.size w x30 by rw [← HE30.out]; exact below_sto (bt HC0_3.out HB29.out) (Nat.le_trans (HB1.out).size HG25.out) _ _)
      have HC0_12 := hJ (bt (bt (bt (bt (bt (bt (bt HC0_5.out HB31.out) HX33.out) HB34.out) HX74.out) HX76.out) HB83.out) HB84.out)
      go_wp2
      go_ret
      exact ⟨by first | rfl | exact congrArg (fun z => Ending.returned (.bool z)) (by simp <;> omega), HC0_12.out⟩
     ·have hG0 : (G == 0) = false := by simp [q0]
      clear q0
      have hB := HBP.out
      unfold BadP at hB
      rw [HE1.out, HE2.out, HGV.out] at hB
      have q2 : (E1 == 5) = true := by rw [hB.1, hG0]; rfl
      have q3 : (E2 == 5) = false := by rw [hB.2, hG0]; first | rfl | (rw [decide_eq_true q]; rfl) | (rw [decide_eq_false q]; rfl)
      clear hB
      have HQ30sw10 := hJ (OwnR.new HQ30sw9.out HX76.out)
      have cl85 := HQ30sw10.out.at (ka * 2) HR0.out
      have cl86 := HQ30sw10.out.at (ka * 2 + 1) HR1.out
      go_wp2_with fail
      clear cl85 cl86
      refine (good_any x20 y20 v76).mono ?_
      rw [show vdC x20 y20 = G from HGV.out]
      rintro e w87 ⟨rfl, hb⟩
      have HB87 := hJ hb
      clear hb
      go_wp2_with fail
      refine (lives6_any w87).mono ?_
      rintro e w88 ⟨rfl, hb⟩
      have HB88 := hJ hb
      clear hb
      have HC0_3 := hJ (show Below w.heap.size w w25 from Grew.below (bt HB1.out HB23.out) HW25.out HO24.out (HB1.out).size ((bt HB1.out HB23.out)).size)
      have HC0_5 := hJ (show Below w.heap.size w x30 by rw [← HE30.out]; exact below_sto (bt HC0_3.out HB29.out) (Nat.le_trans (HB1.out).size HG25.out) _ _)
      have HC0_12 := hJ (bt (bt (bt (bt (bt (bt (bt HC0_5.out HB31.out) HX33.out) HB34.out) HX74.out) HX76.out) HB87.out) HB88.out)
      go_wp2
      go_ret
      exact ⟨by first | rfl | exact congrArg (fun z => Ending.returned (.bool z)) (by simp <;> omega), HC0_12.out⟩
theorem exactCircles_law (a0 : Option Addr) (len0 cap0 : Nat) (z0 : List Int) (a1 a2 a3 : Int) (w : World) (w0 : RowI .i64 w a0 len0 cap0 z0) (w1 : (Lit.int .i64 a1).wf = true) (w2 : (Lit.int .i64 a2).wf = true) (w3 : (Lit.int .i64 a3).wf = true) :
  Calls Try.prog 3 #[.slice a0 len0 cap0, .int .i64 a1, .int .i64 a2, .int .i64 a3] w fun e w' => e = .returned (.bool true) ∧ Below w.heap.size w w' := by
 obtain ⟨ls, h1, h2, h3, h4⟩ := w0.open_
 exact exactCircles_walk a0 len0 cap0 ls a1 a2 a3 w ⟨h4, by rw [h1]; exact h2, h3⟩ w1 w2 w3
end Go.Proofs.Ytdamadkhbeonaaa
