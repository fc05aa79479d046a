/- Contracts of the law's own functions: equal, wider. -/
import Derived.Test.YtpcliampffeknaaNRa
namespace Go.Proofs.Ytpcliampffeknaa
open Go.RowKit
attribute [local go_sem ↓] Go.wp_at_zero Go.wp_at_succ

def eqB (x y : Int) : Bool := decI x == decI y
theorem eqB_iff {x y : Int} : eqB x y = true ↔ x = y := by
  unfold eqB
  constructor
  · intro h; exact decI_inj (by simpa using h)
  · rintro rfl; simp
theorem eqB_self (x : Int) : eqB x x = true := eqB_iff.2 rfl
set_option maxRecDepth 100000 in
set_option maxHeartbeats 1600000 in
theorem equal_any (x y : Int) (s s' : Bool) (A A' : Option Addr) (n c n' c' : Nat) (w : World) (hx : PI w s A n c x) (hy : RN w s' A' n' c' y) (hn : n ≤ 100000) (hn' : n' ≤ 150000) :
    Calls Try.prog 16 #[.agg #[.bool s, .slice A n c], .agg #[.bool s', .slice A' n' c']] w (RetB1 (eqB x y) w) := by
  obtain ⟨W, hW⟩ : ∃ W, (w.alloc (.cells #[.bool s, .slice A n c] 33)).alloc (.cells #[.bool s', .slice A' n' c'] 25) = W := ⟨_, rfl⟩
  have HK := Lib.hid (show Below w.heap.size w W by rw [← hW]; exact ((Below.refl _ w).alloc (Nat.le_refl _) _).alloc (by simp) _)
  have HA := Lib.hid (show P2 33 W w.heap.size (.bool s) (.slice A n c) by rw [← hW]; exact (P2.lit _ _ _ _).alloc _)
  have HB := Lib.hid (show P2 25 W (w.heap.size + 1) (.bool s') (.slice A' n' c') by
    rw [← hW]
    have := P2.lit (w.alloc (.cells #[.bool s, .slice A n c] 33)) 25 (.bool s') (.slice A' n' c')
    rw [World.size_alloc] at this
    exact this)
  have HX := Lib.hid (hx.new HK.out)
  have HY := Lib.hid (show RN W s' A' n' c' y from ⟨hy.1, hy.2.1, hy.2.2.new HK.out⟩)
  obtain ⟨a0, a1⟩ := HA.out.cells
  obtain ⟨b0, b1⟩ := HB.out.cells
  clear hx hy
  let S := fun w' : World => w'.cell? ⟨w.heap.size, 0, none⟩ = some (.bool s) ∧ w'.cell? ⟨w.heap.size, 1, none⟩ = some (.slice A n c) ∧ w'.cell? ⟨w.heap.size + 1, 0, none⟩ = some (.bool s') ∧ w'.cell? ⟨w.heap.size + 1, 1, none⟩ = some (.slice A' n' c') ∧ Below W.heap.size W w'
  have hS : ∀ w', Below W.heap.size W w' → S w' := fun w' hb => ⟨(HA.out.new hb).cells.1, (HA.out.new hb).cells.2, (HB.out.new hb).cells.1, (HB.out.new hb).cells.2, hb⟩
  have K1 : Hid (∀ w', S w' → Calls Try.prog 17 #[.agg #[.bool s, .slice A n c]] w' fun e w'' => e = .returned (.string ⟨(decI x).toArray⟩) ∧ S w'') :=
    Lib.hid (fun w' h => (pstring_any x s A n c w' (HX.out.new h.2.2.2.2) hn).mono (fun e w'' ⟨he, hb⟩ => ⟨he, hS _ (h.2.2.2.2.trans (hb.mono h.2.2.2.2.size))⟩))
  have K2 : Hid (∀ w', S w' → Calls Try.prog 10 #[.agg #[.bool s', .slice A' n' c']] w' fun e w'' => e = .returned (.string ⟨(decI y).toArray⟩) ∧ S w'') :=
    Lib.hid (fun w' h => (text_any y s' A' n' c' w' ⟨HY.out.1, HY.out.2.1, HY.out.2.2.new h.2.2.2.2⟩ hn').mono (fun e w'' ⟨he, hb⟩ => ⟨he, hS _ (h.2.2.2.2.trans (hb.mono h.2.2.2.2.size))⟩))
  have bR := hS _ (Below.refl W.heap.size W).drew
  clear hS
  have HE := Lib.hid (show eqB x y = (decI x == decI y) from rfl)
  generalize decI x = X at K1 HE
  generalize decI y = Y at K2 HE
  go_enter Try.func16, Try.ntmps16
  go_wp2_with fail
  go_region_held3 (fun w' => w'.cell? ⟨w.heap.size, 0, none⟩ = some (.bool s) ∧ w'.cell? ⟨w.heap.size, 1, none⟩ = some (.slice A n c) ∧ w'.cell? ⟨w.heap.size + 1, 0, none⟩ = some (.bool s') ∧ w'.cell? ⟨w.heap.size + 1, 1, none⟩ = some (.slice A' n' c') ∧ Below W.heap.size W w') (first | assumption | exact bR | go_keep)
    (first | (go_at_call 17; refine (K1.out _ ?_).mono ?_; assumption; rintro e w' ⟨rfl, hc'⟩) | (go_at_call 10; refine (K2.out _ ?_).mono ?_; assumption; rintro e w' ⟨rfl, hc'⟩))
  rename_i hlast
  have HL := Lib.hid hlast.2.2.2.2
  clear hlast
  go_wp2
  go_ret
  exact ⟨by rw [HE.out]; rfl, HK.out.trans (HL.out.mono HK.out.size)⟩

theorem dec_num (m : Nat) : isDecB (dec m) = true ∧ (0 < m → (dec m == [48]) = false) ∧ (dec m).getD 0 0 ≠ 45 := by
  have hne := dec_ne m
  have hd := isDig_dec m
  have hl : 0 < (dec m).length := List.length_pos_iff.2 hne
  have h0 : 0 < m → (dec m).getD 0 0 ≠ 48 := dec_head m
  have hz : m = 0 → dec m = [48] := by rintro rfl; exact dec_lt (by decide)
  refine ⟨isDecB_true hl ?_ hd, fun hm => ?_, ?_⟩
  · rintro ⟨h1, h2⟩
    rcases Nat.eq_zero_or_pos m with e | e
    · rw [hz e] at h2; simp at h2
    · exact h0 e (UInt8.toNat_inj.1 h1)
  · rw [beq_eq_false_iff_ne]
    intro e
    have := h0 hm
    rw [e] at this
    exact this rfl
  · intro e
    have h1 := hd ((dec m)[0]'hl) (List.getElem_mem hl)
    rw [by_at hl] at e
    rw [e] at h1
    exact absurd h1.1 (by decide)
theorem num_decI (x : Int) : isNum (decI x) = true ∧ numOf (decI x) = x := by
  obtain ⟨h1, h2, h3⟩ := dec_num x.natAbs
  unfold isNum numOf
  by_cases hx : x < 0
  · have e : decI x = 45 :: dec x.natAbs := if_pos hx
    have e1 : cutB (decI x) = true := by rw [e]; rfl
    have e2 : cutL (decI x) = dec x.natAbs := by rw [cutL, e1, e]; rfl
    rw [e1, e2, h1, h2 (by omega), dval_dec]
    refine ⟨rfl, ?_⟩
    unfold sgn
    rw [if_pos rfl]
    omega
  · have e : decI x = dec x.natAbs := if_neg hx
    have e1 : cutB (decI x) = false := by rw [e, cutB, beq_eq_false_iff_ne]; exact h3
    have e2 : cutL (decI x) = dec x.natAbs := by rw [cutL, e1, e]; rfl
    rw [e1, e2, h1, dval_dec]
    refine ⟨rfl, ?_⟩
    unfold sgn
    rw [if_neg (by decide)]
    omega
theorem two_ten (q e : Nat) (h : e ≤ 93 * q) : 2 ^ e ≤ 10 ^ (28 * q) := by
  refine Nat.le_trans (Nat.pow_le_pow_right (by decide) h) ?_
  rw [Nat.pow_mul, Nat.pow_mul]
  exact Nat.pow_le_pow_left (by decide) q
/-- Twice the bound of the range. -/
def big : Nat := 2 ^ (32 * limE + 1)
theorem lim_two : lim = 2 ^ (32 * limE) := by
  unfold lim
  rw [Nat.pow_mul]
theorem big_lim : big = 2 * lim := by
  rw [lim_two, big, Nat.pow_succ, Nat.mul_comm]
theorem dec_short {v k : Nat} (q : Nat) (h : v < 2 ^ k) (hk : k ≤ 93 * q) (hq : 0 < 28 * q) : (dec v).length ≤ 28 * q := (dec_len hq).2 (Nat.lt_of_lt_of_le h (two_ten q k hk))
theorem decI_short {x : Int} (h : x.natAbs < big) : (decI x).length ≤ 5000 := by
  have h1 : (dec x.natAbs).length ≤ 28 * 177 := dec_short 177 h (by decide) (by decide)
  unfold decI
  split
  · rw [List.length_cons]; omega
  · omega
theorem ps_decI {x : Int} (h : x.natAbs < big) : psV (decI x) = outV x ∧ psC (decI x) = outC x := by
  have h1 := decI_short h
  obtain ⟨h2, h3⟩ := num_decI x
  have h4 : ¬ 5000 < (decI x).length := by omega
  unfold psV psC
  rw [if_neg h4, if_neg h4, if_pos h2, if_pos h2, h3]
  exact ⟨rfl, rfl⟩
theorem lim_big {x : Int} (h : x.natAbs < lim) : x.natAbs < big := by
  rw [big_lim]; omega
/-- What wider returns for an integer in range. -/
def RetWd (x : Int) (w : World) (e : Ending) (w' : World) : Prop := ∃ s A n c, e = .returned (.tuple #[.agg #[.bool s, .slice A n c], .bool true]) ∧ PI w' s A n c x ∧ Below w.heap.size w w'
set_option maxRecDepth 100000 in
set_option maxHeartbeats 1600000 in
theorem wider_any (x : Int) (s : Bool) (A : Option Addr) (n c : Nat) (w : World) (hx : RN w s A n c x) (hn : n ≤ 150000) (hl : x.natAbs < lim) :
    Calls Try.prog 23 #[.agg #[.bool s, .slice A n c]] w (RetWd x w) := by
  obtain ⟨W, hW⟩ : ∃ W, (w.alloc (.cells #[.bool s, .slice A n c] 25)).alloc (.cells #[.bool false, .slice none 0 0] 33) = W := ⟨_, rfl⟩
  have HK := Lib.hid (show Below w.heap.size w W by rw [← hW]; exact ((Below.refl _ w).alloc (Nat.le_refl _) _).alloc (by simp) _)
  have HA := Lib.hid (show P2 25 W w.heap.size (.bool s) (.slice A n c) by rw [← hW]; exact (P2.lit _ _ _ _).alloc _)
  have HB := Lib.hid (show P2 33 W (w.heap.size + 1) (.bool false) (.slice none 0 0) by
    rw [← hW]
    have := P2.lit (w.alloc (.cells #[.bool s, .slice A n c] 25)) 33 (.bool false) (.slice none 0 0)
    rw [World.size_alloc] at this
    exact this)
  have HX := Lib.hid (show RN W s A n c x from ⟨hx.1, hx.2.1, hx.2.2.new HK.out⟩)
  obtain ⟨a0, a1⟩ := HA.out.cells
  have hps := ps_decI (lim_big hl)
  rw [in_lim hl |>.1, in_lim hl |>.2] at hps
  have HPS := Lib.hid hps
  have HSH := Lib.hid (decI_short (lim_big hl))
  clear hx hps hl
  go_enter Try.func23, Try.ntmps23
  go_wp2_with fail
  refine (text_any x s A n c W HX.out hn).mono ?_
  rintro e w1 ⟨rfl, hb1⟩
  have HB1 := Lib.hid hb1
  clear hb1 a0 a1 hW
  go_wp2_with fail
  refine (pparse_any (decI x) w1 (by have := HSH.out; omega)).mono ?_
  rw [HPS.out.1, HPS.out.2]
  rintro e w2 ⟨s2, A2, n2, c2, rfl, hr2, hb2⟩
  have HR2 := Lib.hid hr2
  have HB2 := Lib.hid (HB1.out.trans (hb2.mono HB1.out.size))
  clear hr2 hb2
  have HZ := Lib.hid ((HB.out.new HB2.out).alloc (.cells #[.bool s2, .slice A2 n2 c2] 33))
  obtain ⟨b0, b1⟩ := HZ.out.cells
  have f0 := HZ.out.frozen 0
  have f1 := HZ.out.frozen 1
  have HBB := Lib.hid (HK.out.trans ((HB2.out.alloc HB2.out.size (.cells #[.bool s2, .slice A2 n2 c2] 33)).mono HK.out.size))
  have HRZ := Lib.hid (PIo.new HR2.out ((Below.refl _ w2).alloc (Nat.le_refl _) (.cells #[.bool s2, .slice A2 n2 c2] 33)))
  go_wp2_with fail
  exact bodyPost_ret (results_cell1 rfl _ _ _ _ _ _ _ rfl (HZ.out.all (.bool s2) (.slice A2 n2 c2)) Try.underlying33 rfl W_size) rfl ⟨s2, A2, n2, c2, rfl, HRZ.out.box HZ.out rfl rfl _ _, below_box HBB.out (by omega) _ _⟩
end Go.Proofs.Ytpcliampffeknaa
