/- Contracts of the reference's Neg, Compare, Add, Sub, Of. -/
import Derived.Test.YtpcliampffeknaaNR3
namespace Go.Proofs.Ytpcliampffeknaa
open Go.RowKit
attribute [local go_sem ↓] Go.wp_at_zero Go.wp_at_succ

theorem N_size : (Try.prog.info? 25).map (·.size) = some 2 := by kernel_rfl
theorem RNo.stored {ok : Nat → Prop} {x : Int} {w w6 : World} {neg : Bool} {A : Option Addr} {n c B : Nat} {z0 z1 : Value} {t : TypeId} (h : RNo ok w6 neg A n c x) (hp : P2 t w6 B z0 z1) (h0 : isI z0 = false) (h1 : isI z1 = false) (hb : Below w.heap.size w w6) (hB : w.heap.size ≤ B) (u0 u1 : Value) :
    RetNo ok x w (.returned (.agg #[.bool neg, .slice A n c])) ((w6.setCell ⟨B, 0, none⟩ u0).setCell ⟨B, 1, none⟩ u1) :=
  ⟨neg, A, n, c, rfl, ⟨h.1, h.2.1, h.2.2.box hp h0 h1 u0 u1⟩, below_box hb hB u0 u1⟩
theorem RNo.eq {ok : Nat → Prop} {w : World} {neg : Bool} {A : Option Addr} {n c : Nat} {x y : Int} (h : RNo ok w neg A n c x) (e : x = y) : RNo ok w neg A n c y := e ▸ h
theorem sgn_not (x : Int) : sgn (!decide (x < 0)) x.natAbs = -x := by
  unfold sgn
  by_cases h : x < 0
  · simp [h]; omega
  · simp [h]; omega
theorem val_rn (x : Int) : val 10000 (digs 10000 x.natAbs) = x.natAbs := val_digs (by decide) _

set_option maxRecDepth 100000 in
set_option maxHeartbeats 1600000 in
theorem neg_any (x : Int) (neg : Bool) (A : Option Addr) (n c : Nat) (w : World) (h : RN w neg A n c x) (hn : n ≤ 900000) :
    Calls Try.prog 30 #[.agg #[.bool neg, .slice A n c]] w (RetN (-x) w) := by
  have HS := Lib.hid h.1
  have HL := Lib.hid h.2.2
  clear h
  have HK := Lib.hid (W2_k 25 w (.bool neg) (.slice A n c) (.bool false) (.slice none 0 0))
  have HZ := Lib.hid (W2_z 25 w (.bool neg) (.slice A n c) (.bool false) (.slice none 0 0))
  go_enter Try.func30, Try.ntmps30
  go_wp2_with fail
  refine (normal_any (!neg) _ A n c (W2 25 w (.bool neg) (.slice A n c) (.bool false) (.slice none 0 0)) (dig_digs (by decide) x.natAbs) (HL.out.new HK.out) (by omega)).mono ?_
  rintro e w6 ⟨neg6, A6, n6, c6, rfl, hrn, hb6⟩
  have hp := HZ.out.new hb6
  obtain ⟨hc0, hc1⟩ := hp.cells
  have hf0 := hp.frozen 0
  have hf1 := hp.frozen 1
  have HP := Lib.hid hp
  have HR := Lib.hid (hrn.eq (y := -x) (by rw [val_rn, HS.out, sgn_not]))
  have HB := Lib.hid (HK.out.trans (hb6.mono HK.out.size))
  clear hp hrn hb6
  go_wp2
  exact bodyPost_ret (results_cell_row rfl _ _ _ _ _ _ _ rfl (HP.out.all (.bool neg6) (.slice A6 n6 c6)) Try.underlying25 rfl N_size) rfl (RNo.stored HR.out HP.out rfl rfl HB.out (by omega) _ _)

/-- -1, 0 or 1. -/
def cmpI (a b : Int) : Int := if a < b then -1 else if b < a then 1 else 0
theorem cmpI_np {a b : Int} (ha : a < 0) (hb : ¬ b < 0) : cmpI a b = -1 := by rw [cmpI, if_pos (by omega)]
theorem cmpI_pn {a b : Int} (ha : ¬ a < 0) (hb : b < 0) : cmpI a b = 1 := by rw [cmpI, if_neg (by omega), if_pos (by omega)]
theorem cmpI_nn {a b : Int} (ha : a < 0) (hb : b < 0) : cmpI a b = cmpN b.natAbs a.natAbs := by
  unfold cmpI cmpN
  split <;> split <;> (try split) <;> (try split) <;> omega
theorem cmpI_pp {a b : Int} (ha : ¬ a < 0) (hb : ¬ b < 0) : cmpI a b = cmpN a.natAbs b.natAbs := by
  unfold cmpI cmpN
  split <;> split <;> (try split) <;> (try split) <;> omega
set_option maxRecDepth 100000 in
set_option maxHeartbeats 1600000 in
theorem rcompare_any (x y : Int) (neg neg' : Bool) (A A' : Option Addr) (n c n' c' : Nat) (w : World) (hx : RN w neg A n c x) (hy : RN w neg' A' n' c' y) (hn : n ≤ 900000) (hn' : n' ≤ 900000) :
    Calls Try.prog 32 #[.agg #[.bool neg, .slice A n c], .agg #[.bool neg', .slice A' n' c']] w fun e w' => e = .returned (.int .i64 (cmpI x y)) ∧ Below w.heap.size w w' := by
  have HSX := Lib.hid hx.1
  have HSY := Lib.hid hy.1
  have HLX := Lib.hid hx.2.2
  have HLY := Lib.hid hy.2.2
  clear hx hy
  have hb0 : ∀ o o' : Obj, Below w.heap.size w ((w.alloc o).alloc o') := fun o o' => ((Below.refl _ w).alloc (Nat.le_refl _) o).alloc (by simp) o'
  have HB := Lib.hid hb0
  clear hb0
  cases neg <;> cases neg'
  · have HE := Lib.hid (cmpI_pp (a := x) (b := y) (by have := HSX.out; simpa using this.symm) (by have := HSY.out; simpa using this.symm))
    go_enter Try.func32, Try.ntmps32
    go_wp2_with fail
    refine (compared_any x.natAbs y.natAbs A A' n n' c c' _ (HLX.out.new (HB.out _ _)) (HLY.out.new (HB.out _ _)) (by omega) (by omega)).mono ?_
    rintro e w' ⟨rfl, hb⟩
    have HB2 := Lib.hid ((HB.out _ _).trans (hb.mono (HB.out _ _).size))
    clear hb
    go_wp2
    go_ret
    exact ⟨ret_int HE.out.symm, HB2.out⟩
  · have HE := Lib.hid (cmpI_pn (a := x) (b := y) (by have := HSX.out; simpa using this.symm) (by have := HSY.out; simpa using this.symm))
    go_enter Try.func32, Try.ntmps32
    go_wp2_with fail
    go_ret
    exact ⟨ret_int HE.out.symm, HB.out _ _⟩
  · have HE := Lib.hid (cmpI_np (a := x) (b := y) (by have := HSX.out; simpa using this.symm) (by have := HSY.out; simpa using this.symm))
    go_enter Try.func32, Try.ntmps32
    go_wp2_with fail
    go_ret
    exact ⟨ret_int HE.out.symm, HB.out _ _⟩
  · have HE := Lib.hid (cmpI_nn (a := x) (b := y) (by have := HSX.out; simpa using this.symm) (by have := HSY.out; simpa using this.symm))
    go_enter Try.func32, Try.ntmps32
    go_wp2_with fail
    refine (compared_any y.natAbs x.natAbs A' A n' n c' c _ (HLY.out.new (HB.out _ _)) (HLX.out.new (HB.out _ _)) (by omega) (by omega)).mono ?_
    rintro e w' ⟨rfl, hb⟩
    have HB2 := Lib.hid ((HB.out _ _).trans (hb.mono (HB.out _ _).size))
    clear hb
    go_wp2
    go_ret
    exact ⟨ret_int HE.out.symm, HB2.out⟩
end Go.Proofs.Ytpcliampffeknaa
