/- Contracts of the program's integers: From, Compare, Sign, Neg, Small. -/
import Derived.Test.YtpcliampffeknaaNPc
namespace Go.Proofs.Ytpcliampffeknaa
open Go.RowKit
attribute [local go_sem ↓] Go.wp_at_zero Go.wp_at_succ

theorem RetP.stored {x : Int} {w w6 : World} {neg : Bool} {A : Option Addr} {n c B : Nat} {z0 z1 : Value} {t : TypeId} (h : PI w6 neg A n c x) (hp : P2 t w6 B z0 z1) (h0 : isI z0 = false) (h1 : isI z1 = false) (hb : Below w.heap.size w w6) (hB : w.heap.size ≤ B) (u0 u1 : Value) :
    RetP x w (.returned (.agg #[.bool neg, .slice A n c])) ((w6.setCell ⟨B, 0, none⟩ u0).setCell ⟨B, 1, none⟩ u1) :=
  ⟨neg, A, n, c, rfl, h.box hp h0 h1 u0 u1, below_box hb hB u0 u1⟩
theorem dig_two (m : Nat) (h : m < 18446744073709551616) : Dig 4294967296 [m % 4294967296, m / 4294967296] := dig_cons.2 ⟨by omega, dig_cons.2 ⟨by omega, dig_nil⟩⟩
theorem val_two (m : Nat) : val 4294967296 [m % 4294967296, m / 4294967296] = m := by simp [val]; omega
set_option maxRecDepth 100000 in
set_option maxHeartbeats 1600000 in
theorem from_any (x : Int) (w : World) (hx : (Lit.int .i64 x).wf = true) :
    Calls Try.prog 19 #[.int .i64 x] w (RetP x w) := by
  have hb : -9223372036854775808 ≤ x ∧ x ≤ 9223372036854775807 := by
    simpa [Lit.wf, IntKind.min, IntKind.max, IntKind.signed, IntKind.bits] using hx
  obtain ⟨hb1, hb2⟩ := hb
  clear hx
  obtain ⟨W, hW⟩ : ∃ W, w.alloc (.cells #[.bool false, .slice none 0 0] 33) = W := ⟨_, rfl⟩
  have HK := Lib.hid (show Below w.heap.size w W by rw [← hW]; exact (Below.refl _ w).alloc (Nat.le_refl _) _)
  have HP := Lib.hid (show P2 33 W w.heap.size (.bool false) (.slice none 0 0) by rw [← hW]; exact P2.lit _ _ _ _)
  obtain ⟨m, hm⟩ : ∃ m, x.natAbs = m := ⟨_, rfl⟩
  have HM := Lib.hid hm
  have hml : m < 18446744073709551616 := by omega
  have HWO := Lib.hid (wordsOf_any m W hml)
  have HD2 := Lib.hid (dig_two m hml)
  have HV2 := Lib.hid (val_two m)
  by_cases hneg : x < 0
  · have HS := Lib.hid (show sgn true m = x by unfold sgn; simp; omega)
    have e1 : IntKind.u64.wrap x = x + 18446744073709551616 := by rw [wu64]; omega
    have e2 : IntKind.u64.wrap (-(x + 18446744073709551616)) = (m : Int) := by rw [wu64]; omega
    clear hm hml
    go_enter Try.func19, Try.ntmps19
    go_wp2_with fail
    refine HWO.out.mono ?_
    rintro e w2 ⟨rfl, hblk, hb2⟩
    have HBK := Lib.hid hblk
    have HB2 := Lib.hid hb2
    clear hblk hb2 hW
    go_wp2_with fail
    refine (signed_any true _ _ 2 2 w2 HD2.out (HBK.out.li0 rfl (Nat.le_refl _)).weak (by decide)).mono ?_
    rw [HV2.out, HS.out]
    rintro e w6 ⟨neg6, A6, n6, c6, rfl, hr6, hb6⟩
    have hp := (HP.out.new HB2.out).new hb6
    obtain ⟨hc0, hc1⟩ := hp.cells
    have hf0 := hp.frozen 0
    have hf1 := hp.frozen 1
    have HPP := Lib.hid hp
    have HR := Lib.hid hr6
    have HB := Lib.hid ((HK.out.trans (HB2.out.mono HK.out.size)).trans (hb6.mono (HK.out.trans (HB2.out.mono HK.out.size)).size))
    clear hp hr6 hb6
    go_wp2
    exact bodyPost_ret (results_cell_row rfl _ _ _ _ _ _ _ rfl (HPP.out.all (.bool neg6) (.slice A6 n6 c6)) Try.underlying33 rfl W_size) rfl (RetP.stored HR.out HPP.out rfl rfl HB.out (Nat.le_refl _) _ _)
  · have HS := Lib.hid (show sgn false m = x by unfold sgn; simp; omega)
    have e1 : x = (m : Int) := by omega
    subst e1
    clear hm hml
    go_enter Try.func19, Try.ntmps19
    go_wp2_with fail
    refine HWO.out.mono ?_
    rintro e w2 ⟨rfl, hblk, hb2⟩
    have HBK := Lib.hid hblk
    have HB2 := Lib.hid hb2
    clear hblk hb2 hW
    go_wp2_with fail
    refine (signed_any false _ _ 2 2 w2 HD2.out (HBK.out.li0 rfl (Nat.le_refl _)).weak (by decide)).mono ?_
    rw [HV2.out, HS.out]
    rintro e w6 ⟨neg6, A6, n6, c6, rfl, hr6, hb6⟩
    have hp := (HP.out.new HB2.out).new hb6
    obtain ⟨hc0, hc1⟩ := hp.cells
    have hf0 := hp.frozen 0
    have hf1 := hp.frozen 1
    have HPP := Lib.hid hp
    have HR := Lib.hid hr6
    have HB := Lib.hid ((HK.out.trans (HB2.out.mono HK.out.size)).trans (hb6.mono (HK.out.trans (HB2.out.mono HK.out.size)).size))
    clear hp hr6 hb6
    go_wp2
    exact bodyPost_ret (results_cell_row rfl _ _ _ _ _ _ _ rfl (HPP.out.all (.bool neg6) (.slice A6 n6 c6)) Try.underlying33 rfl W_size) rfl (RetP.stored HR.out HPP.out rfl rfl HB.out (Nat.le_refl _) _ _)

set_option maxRecDepth 100000 in
set_option maxHeartbeats 1600000 in
theorem pcompare_any (x y : Int) (neg neg' : Bool) (A A' : Option Addr) (n c n' c' : Nat) (w : World) (hx : PI w neg A n c x) (hy : PI w neg' A' n' c' y) (hn : n ≤ 900000) (hn' : n' ≤ 900000) :
    Calls Try.prog 31 #[.agg #[.bool neg, .slice A n c], .agg #[.bool neg', .slice A' n' c']] w fun e w' => e = .returned (.int .i64 (cmpI x y)) ∧ Below w.heap.size w w' := by
  have HSX := Lib.hid hx.1
  have HSY := Lib.hid hy.1
  have HLX := Lib.hid hx.2.2
  have HLY := Lib.hid hy.2.2
  clear hx hy
  have hb0 : ∀ o o' : Obj, Below w.heap.size w ((w.alloc o).alloc o') := fun o o' => ((Below.refl _ w).alloc (Nat.le_refl _) o).alloc (by simp) o'
  have HB := Lib.hid hb0
  clear hb0
  cases neg <;> cases neg'
  · have HE := Lib.hid (cmpI_pp (a := x) (b := y) (by have := HSX.out; simpa using this.symm) (by have := HSY.out; simpa using this.symm))
    go_enter Try.func31, Try.ntmps31
    go_wp2_with fail
    refine (compareWords_any x.natAbs y.natAbs A A' n n' c c' _ (HLX.out.new (HB.out _ _)) (HLY.out.new (HB.out _ _)) (by omega) (by omega)).mono ?_
    rintro e w' ⟨rfl, hb⟩
    have HB2 := Lib.hid ((HB.out _ _).trans (hb.mono (HB.out _ _).size))
    clear hb
    go_wp2
    go_ret
    exact ⟨ret_int HE.out.symm, HB2.out⟩
  · have HE := Lib.hid (cmpI_pn (a := x) (b := y) (by have := HSX.out; simpa using this.symm) (by have := HSY.out; simpa using this.symm))
    go_enter Try.func31, Try.ntmps31
    go_wp2_with fail
    go_ret
    exact ⟨ret_int HE.out.symm, HB.out _ _⟩
  · have HE := Lib.hid (cmpI_np (a := x) (b := y) (by have := HSX.out; simpa using this.symm) (by have := HSY.out; simpa using this.symm))
    go_enter Try.func31, Try.ntmps31
    go_wp2_with fail
    go_ret
    exact ⟨ret_int HE.out.symm, HB.out _ _⟩
  · have HE := Lib.hid (cmpI_nn (a := x) (b := y) (by have := HSX.out; simpa using this.symm) (by have := HSY.out; simpa using this.symm))
    go_enter Try.func31, Try.ntmps31
    go_wp2_with fail
    refine (compareWords_any y.natAbs x.natAbs A' A n' n c' c _ (HLY.out.new (HB.out _ _)) (HLX.out.new (HB.out _ _)) (by omega) (by omega)).mono ?_
    rintro e w' ⟨rfl, hb⟩
    have HB2 := Lib.hid ((HB.out _ _).trans (hb.mono (HB.out _ _).size))
    clear hb
    go_wp2
    go_ret
    exact ⟨ret_int HE.out.symm, HB2.out⟩
set_option maxRecDepth 100000 in
set_option maxHeartbeats 1600000 in
theorem sign_any (x : Int) (neg : Bool) (A : Option Addr) (n c : Nat) (w : World) (hx : PI w neg A n c x) (hn : n ≤ 900000) :
    Calls Try.prog 33 #[.agg #[.bool neg, .slice A n c]] w fun e w' => e = .returned (.int .i64 (cmpI x 0)) ∧ Below w.heap.size w w' := by
  have hb0 := (Below.refl w.heap.size w).alloc (Nat.le_refl _) (.cells #[.bool neg, .slice A n c] 33)
  have HB := Lib.hid hb0
  have HX := Lib.hid (hx.new hb0)
  clear hx hb0
  go_enter Try.func33, Try.ntmps33
  go_wp2_with fail
  refine (pcompare_any x 0 neg false A none n c 0 0 _ HX.out (PI.zero _) (by omega) (by omega)).mono ?_
  rintro e w' ⟨rfl, hb⟩
  have HB2 := Lib.hid (HB.out.trans (hb.mono HB.out.size))
  clear hb
  go_wp2
  go_ret
  exact ⟨rfl, HB2.out⟩
set_option maxRecDepth 100000 in
set_option maxHeartbeats 1600000 in
theorem pneg_any (x : Int) (neg : Bool) (A : Option Addr) (n c : Nat) (w : World) (hx : PI w neg A n c x) (hn : n ≤ 900000) :
    Calls Try.prog 34 #[.agg #[.bool neg, .slice A n c]] w (RetP (-x) w) := by
  have HS := Lib.hid hx.1
  have HL := Lib.hid hx.2.1
  have HK := Lib.hid (W2_k 33 w (.bool neg) (.slice A n c) (.bool false) (.slice none 0 0)).drew
  have HA := Lib.hid (show P2 33 (W2 33 w (.bool neg) (.slice A n c) (.bool false) (.slice none 0 0)).drew w.heap.size (.bool neg) (.slice A n c) from W2_a _ _ _ _ _ _)
  have HZ := Lib.hid (show P2 33 (W2 33 w (.bool neg) (.slice A n c) (.bool false) (.slice none 0 0)).drew (w.heap.size + 1) (.bool false) (.slice none 0 0) from W2_z _ _ _ _ _ _)
  have HX := Lib.hid (hx.2.2.new HK.out)
  have HSG := Lib.hid (show sgn (!neg) x.natAbs = -x by rw [hx.1]; exact sgn_not x)
  clear hx
  go_enter Try.func34, Try.ntmps34
  go_wp2_with fail
  go_region_held3 (fun w' => w'.cell? ⟨w.heap.size, 0, none⟩ = some (.bool neg) ∧ w'.cell? ⟨w.heap.size, 1, none⟩ = some (.slice A n c)) (first | assumption | exact HA.out.cells | exact (hA6.out.far2 (by omega) _ _).cells | go_keep)
    (first | (go_at_call 51; refine (copied_any _ A n c _ HX.out (by omega)).mono ?_; rintro e w5 ⟨rfl, hblk5, hb5⟩; have hS5 := (HA.out.new hb5).cells) | (go_at_call 49; refine (signed_any (!neg) _ _ n n _ (dig_digs (by decide) x.natAbs) (hblk5.li0 HL.out (Nat.le_refl _)).weak (by omega)).mono ?_; rw [val_pi, HSG.out]; rintro e w6 ⟨neg6, A6, n6, c6, rfl, hr6, hb6⟩; have hA6 := Lib.hid ((HA.out.new hb5).new hb6); have hZ6 := Lib.hid ((HZ.out.new hb5).new hb6); have hS6 := ((HA.out.new hb5).new hb6).cells; have hc60 := ((HZ.out.new hb5).new hb6).cells.1; have hc61 := ((HZ.out.new hb5).new hb6).cells.2; have hf60 := ((HZ.out.new hb5).new hb6).frozen 0; have hf61 := ((HZ.out.new hb5).new hb6).frozen 1))
  have HR := Lib.hid hr6
  have HBB := Lib.hid ((HK.out.trans (hb5.mono HK.out.size)).trans (hb6.mono (HK.out.trans (hb5.mono HK.out.size)).size))
  clear hr6 hb5 hb6 hS5 hS6 hblk5
  go_wp2
  exact bodyPost_ret (results_cell_row rfl _ _ _ _ _ _ _ rfl (hZ6.out.all (.bool neg6) (.slice A6 n6 c6)) Try.underlying33 rfl W_size) rfl (RetP.stored HR.out hZ6.out rfl rfl HBB.out (by omega) _ _)
end Go.Proofs.Ytpcliampffeknaa
