/- Contracts of the third chapter's statements' own functions. Conditions: as each statement has them. -/
import Derived.Test.YtlhccfmbfdaboaaB5
import Derived.StillTailTactics
namespace Go.Proofs.Ytlhccfmbfdaboaa
open Go.RowKit
attribute [local go_sem ↓] Go.wp_at_zero Go.wp_at_succ

set_option maxRecDepth 100000 in
set_option maxHeartbeats 1600000 in
theorem equal_any (x y : Int) (s s' : Bool) (A A' : Option Addr) (n c n' c' : Nat) (w : World) (hx : PI w s A n c x) (hy : RN w s' A' n' c' y) (hn : n ≤ 100000) (hn' : n' ≤ 150000) :
    Calls Try.prog 17 #[.agg #[.bool s, .slice A n c], .agg #[.bool s', .slice A' n' c']] w (RetB1 (eqB x y) w) := by
  obtain ⟨W, hW⟩ : ∃ W, (w.alloc (.cells #[.bool s, .slice A n c] 31)).alloc (.cells #[.bool s', .slice A' n' c'] 24) = W := ⟨_, rfl⟩
  have HK := Lib.hid (show Below w.heap.size w W by rw [← hW]; exact ((Below.refl _ w).alloc (Nat.le_refl _) _).alloc (by simp) _)
  have HA := Lib.hid (show P2 31 W w.heap.size (.bool s) (.slice A n c) by rw [← hW]; exact (P2.lit _ _ _ _).alloc _)
  have HB := Lib.hid (show P2 24 W (w.heap.size + 1) (.bool s') (.slice A' n' c') by
    rw [← hW]
    have := P2.lit (w.alloc (.cells #[.bool s, .slice A n c] 31)) 24 (.bool s') (.slice A' n' c')
    rw [World.size_alloc] at this
    exact this)
  have HX := Lib.hid (hx.new HK.out)
  have HY := Lib.hid (show RN W s' A' n' c' y from ⟨hy.1, hy.2.1, hy.2.2.new HK.out⟩)
  obtain ⟨a0, a1⟩ := HA.out.cells
  obtain ⟨b0, b1⟩ := HB.out.cells
  clear hx hy
  let S := fun w' : World => w'.cell? ⟨w.heap.size, 0, none⟩ = some (.bool s) ∧ w'.cell? ⟨w.heap.size, 1, none⟩ = some (.slice A n c) ∧ w'.cell? ⟨w.heap.size + 1, 0, none⟩ = some (.bool s') ∧ w'.cell? ⟨w.heap.size + 1, 1, none⟩ = some (.slice A' n' c') ∧ Below W.heap.size W w'
  have hS : ∀ w', Below W.heap.size W w' → S w' := fun w' hb => ⟨(HA.out.new hb).cells.1, (HA.out.new hb).cells.2, (HB.out.new hb).cells.1, (HB.out.new hb).cells.2, hb⟩
  have K1 : Hid (∀ w', S w' → Calls Try.prog 72 #[.agg #[.bool s, .slice A n c]] w' fun e w'' => e = .returned (.string ⟨(decI x).toArray⟩) ∧ S w'') :=
    Lib.hid (fun w' h => (pstring_any x s A n c w' (HX.out.new h.2.2.2.2) hn).mono (fun e w'' ⟨he, hb⟩ => ⟨he, hS _ (h.2.2.2.2.trans (hb.mono h.2.2.2.2.size))⟩))
  have K2 : Hid (∀ w', S w' → Calls Try.prog 24 #[.agg #[.bool s', .slice A' n' c']] w' fun e w'' => e = .returned (.string ⟨(decI y).toArray⟩) ∧ S w'') :=
    Lib.hid (fun w' h => (text_any y s' A' n' c' w' ⟨HY.out.1, HY.out.2.1, HY.out.2.2.new h.2.2.2.2⟩ hn').mono (fun e w'' ⟨he, hb⟩ => ⟨he, hS _ (h.2.2.2.2.trans (hb.mono h.2.2.2.2.size))⟩))
  have bR := hS _ (Below.refl W.heap.size W).drew
  clear hS
  have HE := Lib.hid (show eqB x y = (decI x == decI y) from rfl)
  generalize decI x = X at K1 HE
  generalize decI y = Y at K2 HE
  go_enter Try.func17, Try.ntmps17
  go_wp2_with fail
  go_region_held3 (fun w' => w'.cell? ⟨w.heap.size, 0, none⟩ = some (.bool s) ∧ w'.cell? ⟨w.heap.size, 1, none⟩ = some (.slice A n c) ∧ w'.cell? ⟨w.heap.size + 1, 0, none⟩ = some (.bool s') ∧ w'.cell? ⟨w.heap.size + 1, 1, none⟩ = some (.slice A' n' c') ∧ Below W.heap.size W w') (first | assumption | exact bR | go_keep)
    (first | (go_at_call 72; refine (K1.out _ ?_).mono ?_; assumption; rintro e w' ⟨rfl, hc'⟩) | (go_at_call 24; refine (K2.out _ ?_).mono ?_; assumption; rintro e w' ⟨rfl, hc'⟩))
  rename_i hlast
  have HL := Lib.hid hlast.2.2.2.2
  clear hlast
  go_wp2
  go_ret
  exact ⟨by rw [HE.out]; rfl, HK.out.trans (HL.out.mono HK.out.size)⟩

/-- What wider returns for an integer in range. -/
def RetWd (x : Int) (w : World) (e : Ending) (w' : World) : Prop := ∃ s A n c, e = .returned (.tuple #[.agg #[.bool s, .slice A n c], .bool true]) ∧ PI w' s A n c x ∧ Below w.heap.size w w'
set_option maxRecDepth 100000 in
set_option maxHeartbeats 1600000 in
theorem wider_any (x : Int) (s : Bool) (A : Option Addr) (n c : Nat) (w : World) (hx : RN w s A n c x) (hn : n ≤ 150000) (hl : x.natAbs < lim) :
    Calls Try.prog 15 #[.agg #[.bool s, .slice A n c]] w (RetWd x w) := by
  obtain ⟨W, hW⟩ : ∃ W, (w.alloc (.cells #[.bool s, .slice A n c] 24)).alloc (.cells #[.bool false, .slice none 0 0] 31) = W := ⟨_, rfl⟩
  have HK := Lib.hid (show Below w.heap.size w W by rw [← hW]; exact ((Below.refl _ w).alloc (Nat.le_refl _) _).alloc (by simp) _)
  have HA := Lib.hid (show P2 24 W w.heap.size (.bool s) (.slice A n c) by rw [← hW]; exact (P2.lit _ _ _ _).alloc _)
  have HB := Lib.hid (show P2 31 W (w.heap.size + 1) (.bool false) (.slice none 0 0) by
    rw [← hW]
    have := P2.lit (w.alloc (.cells #[.bool s, .slice A n c] 24)) 31 (.bool false) (.slice none 0 0)
    rw [World.size_alloc] at this
    exact this)
  have HX := Lib.hid (show RN W s A n c x from ⟨hx.1, hx.2.1, hx.2.2.new HK.out⟩)
  obtain ⟨a0, a1⟩ := HA.out.cells
  have hps := ps_decI (lim_big hl)
  rw [in_lim hl |>.1, in_lim hl |>.2] at hps
  have HPS := Lib.hid hps
  have HSH := Lib.hid (decI_short (lim_big hl))
  clear hx hps hl
  go_enter Try.func15, Try.ntmps15
  go_wp2_with fail
  refine (text_any x s A n c W HX.out hn).mono ?_
  rintro e w1 ⟨rfl, hb1⟩
  have HB1 := Lib.hid hb1
  clear hb1 a0 a1 hW
  go_wp2_with fail
  refine (pparse_any (decI x) w1 (by have := HSH.out; omega)).mono ?_
  rw [HPS.out.1, HPS.out.2]
  rintro e w2 ⟨s2, A2, n2, c2, rfl, hr2, hb2⟩
  have HR2 := Lib.hid hr2
  have HB2 := Lib.hid (HB1.out.trans (hb2.mono HB1.out.size))
  clear hr2 hb2
  have HZ := Lib.hid ((HB.out.new HB2.out).alloc (.cells #[.bool s2, .slice A2 n2 c2] 31))
  obtain ⟨b0, b1⟩ := HZ.out.cells
  have f0 := HZ.out.frozen 0
  have f1 := HZ.out.frozen 1
  have HBB := Lib.hid (HK.out.trans ((HB2.out.alloc HB2.out.size (.cells #[.bool s2, .slice A2 n2 c2] 31)).mono HK.out.size))
  have HRZ := Lib.hid (PIo.new HR2.out ((Below.refl _ w2).alloc (Nat.le_refl _) (.cells #[.bool s2, .slice A2 n2 c2] 31)))
  go_wp2_with fail
  exact bodyPost_ret (results_cell1 rfl _ _ _ _ _ _ _ rfl (HZ.out.all (.bool s2) (.slice A2 n2 c2)) Try.underlying31 rfl W_size) rfl ⟨s2, A2, n2, c2, rfl, HRZ.out.box HZ.out rfl rfl _ _, below_box HBB.out (by omega) _ _⟩
end Go.Proofs.Ytlhccfmbfdaboaa

namespace Go.Proofs.Ytlhccfmbfdaboaa
open Go.RowKit
attribute [local go_sem ↓] Go.wp_at_zero Go.wp_at_succ

theorem dec_text {l : List UInt8} {n : Nat} (hv : dval l = n) (h : IsDig l) (hne : l ≠ []) (h0 : l.length = 1 ∨ l.getD 0 0 ≠ 48) : dec n = l := by
  rw [← hv]
  exact dec_dval h hne h0
theorem t_m4 : decI (-4) = [45, 52] := by
  rw [decI, if_pos (by decide), show (-4 : Int).natAbs = 4 from rfl, dec_lt (by decide)]
  rfl
theorem t_m3 : decI (-3) = [45, 51] := by
  rw [decI, if_pos (by decide), show (-3 : Int).natAbs = 3 from rfl, dec_lt (by decide)]
  rfl
theorem t_1 : decI 1 = [49] := by
  rw [decI, if_neg (by decide), show (1 : Int).natAbs = 1 from rfl, dec_lt (by decide)]
  rfl
theorem t_big : decI 18446744073709551616 = [49, 56, 52, 52, 54, 55, 52, 52, 48, 55, 51, 55, 48, 57, 53, 53, 49, 54, 49, 54] := by
  rw [decI, if_neg (by decide), show (18446744073709551616 : Int).natAbs = 18446744073709551616 from rfl]
  exact dec_text (by decide) (by unfold IsDig; decide) (by decide) (by decide)
theorem p_m0 : psV [45, 48] = 0 ∧ psC [45, 48] = 2 := by
  have h : ¬ isNum [45, 48] = true := by decide
  have h5 : ¬ 5000 < ([45, 48] : List UInt8).length := by decide
  unfold psV psC
  rw [if_neg h5, if_neg h5, if_neg h, if_neg h]
  exact ⟨rfl, rfl⟩
theorem p_01 : psV [48, 49] = 0 ∧ psC [48, 49] = 2 := by
  have h : ¬ isNum [48, 49] = true := by decide
  have h5 : ¬ 5000 < ([48, 49] : List UInt8).length := by decide
  unfold psV psC
  rw [if_neg h5, if_neg h5, if_neg h, if_neg h]
  exact ⟨rfl, rfl⟩
theorem in_64 : outV 18446744073709551616 = 18446744073709551616 ∧ outC 18446744073709551616 = 0 := in_lim (lt_lim 3 (by decide) (by decide))
set_option maxRecDepth 100000 in
set_option maxHeartbeats 6400000 in
theorem lives_any (w : World) : Calls Try.prog 19 #[] w (RetB1 true w) := by
  go_enter Try.func19, Try.ntmps19
  go_wp2_with fail
  refine (from_any (-7) w (by decide)).mono ?_
  rintro e w1 ⟨s1, A1, n1, c1, rfl, hr1, hb1⟩
  have HR1 := Lib.hid hr1
  have HS1 := Lib.hid hb1
  have hn1 : n1 ≤ 100000 := small_len hr1 (by decide)
  clear hr1 hb1
  go_wp2_with fail
  refine (from_any (2) w1 (by decide)).mono ?_
  rintro e w2 ⟨s2, A2, n2, c2, rfl, hr2, hb2⟩
  have HR2 := Lib.hid hr2
  have HS2 := Lib.hid hb2
  have hn2 : n2 ≤ 100000 := small_len hr2 (by decide)
  clear hr2 hb2
  go_wp2_with fail
  refine (pdiv_any (-7) (2) s1 s2 A1 A2 n1 c1 n2 c2 w2 (PIo.new HR1.out HS2.out) HR2.out hn1 hn2 (by decide)).mono ?_
  rw [show ((-7 : Int) / (2)) = -4 by decide, show ((-7 : Int) % (2)) = 1 by decide]
  rintro e w3 ⟨s3, A3, n3, c3, t3, D3, m3, d3, rfl, hr3, hu3, hb3⟩
  have HR3 := Lib.hid hr3
  have HU3 := Lib.hid hu3
  have HS3 := Lib.hid hb3
  have hn3 : n3 ≤ 100000 := small_len hr3 (by decide)
  have hm3 : m3 ≤ 100000 := small_len hu3 (by decide)
  clear hr3 hu3 hb3
  have hX3 : (w3.alloc (.cells #[.bool s3, .slice A3 n3 c3] 31)).alloc (.cells #[.bool t3, .slice D3 m3 d3] 31) = W2 31 w3 (.bool s3) (.slice A3 n3 c3) (.bool t3) (.slice D3 m3 d3) := rfl
  obtain ⟨x3, hx3⟩ : ∃ x, W2 31 w3 (.bool s3) (.slice A3 n3 c3) (.bool t3) (.slice D3 m3 d3) = x := ⟨_, rfl⟩
  have HX3 := Lib.hid (show Below w3.heap.size w3 x3 by rw [← hx3]; exact W2_k _ _ _ _ _ _)
  have HQ3 := Lib.hid (show P2 31 x3 w3.heap.size (.bool s3) (.slice A3 n3 c3) by rw [← hx3]; exact W2_a _ _ _ _ _ _)
  have HZ3 := Lib.hid (show P2 31 x3 (w3.heap.size + 1) (.bool t3) (.slice D3 m3 d3) by rw [← hx3]; exact W2_z _ _ _ _ _ _)
  rw [hx3] at hX3
  clear hx3
  go_wp2_with fail
  refine (from_any (7) x3 (by decide)).mono ?_
  rintro e w4 ⟨s4, A4, n4, c4, rfl, hr4, hb4⟩
  have HR4 := Lib.hid hr4
  have HS4 := Lib.hid hb4
  have hn4 : n4 ≤ 100000 := small_len hr4 (by decide)
  clear hr4 hb4
  go_wp2_with fail
  refine (from_any (-2) w4 (by decide)).mono ?_
  rintro e w5 ⟨s5, A5, n5, c5, rfl, hr5, hb5⟩
  have HR5 := Lib.hid hr5
  have HS5 := Lib.hid hb5
  have hn5 : n5 ≤ 100000 := small_len hr5 (by decide)
  clear hr5 hb5
  go_wp2_with fail
  refine (pdiv_any (7) (-2) s4 s5 A4 A5 n4 c4 n5 c5 w5 (PIo.new HR4.out HS5.out) HR5.out hn4 hn5 (by decide)).mono ?_
  rw [show ((7 : Int) / (-2)) = -3 by decide, show ((7 : Int) % (-2)) = 1 by decide]
  rintro e w6 ⟨s6, A6, n6, c6, t6, D6, m6, d6, rfl, hr6, hu6, hb6⟩
  have HR6 := Lib.hid hr6
  have HU6 := Lib.hid hu6
  have HS6 := Lib.hid hb6
  have hn6 : n6 ≤ 100000 := small_len hr6 (by decide)
  have hm6 : m6 ≤ 100000 := small_len hu6 (by decide)
  clear hr6 hu6 hb6
  have hX6 : (w6.alloc (.cells #[.bool s6, .slice A6 n6 c6] 31)).alloc (.cells #[.bool t6, .slice D6 m6 d6] 31) = W2 31 w6 (.bool s6) (.slice A6 n6 c6) (.bool t6) (.slice D6 m6 d6) := rfl
  obtain ⟨x6, hx6⟩ : ∃ x, W2 31 w6 (.bool s6) (.slice A6 n6 c6) (.bool t6) (.slice D6 m6 d6) = x := ⟨_, rfl⟩
  have HX6 := Lib.hid (show Below w6.heap.size w6 x6 by rw [← hx6]; exact W2_k _ _ _ _ _ _)
  have HQ6 := Lib.hid (show P2 31 x6 w6.heap.size (.bool s6) (.slice A6 n6 c6) by rw [← hx6]; exact W2_a _ _ _ _ _ _)
  have HZ6 := Lib.hid (show P2 31 x6 (w6.heap.size + 1) (.bool t6) (.slice D6 m6 d6) by rw [← hx6]; exact W2_z _ _ _ _ _ _)
  rw [hx6] at hX6
  clear hx6
  go_wp2_with fail
  refine (from_any (4294967296) x6 (by decide)).mono ?_
  rintro e w7 ⟨s7, A7, n7, c7, rfl, hr7, hb7⟩
  have HR7 := Lib.hid hr7
  have HS7 := Lib.hid hb7
  have hn7 : n7 ≤ 100000 := small_len hr7 (by decide)
  clear hr7 hb7
  go_wp2_with fail
  refine (from_any (4294967296) w7 (by decide)).mono ?_
  rintro e w8 ⟨s8, A8, n8, c8, rfl, hr8, hb8⟩
  have HR8 := Lib.hid hr8
  have HS8 := Lib.hid hb8
  have hn8 : n8 ≤ 100000 := small_len hr8 (by decide)
  clear hr8 hb8
  go_wp2_with fail
  refine (pmul_any 4294967296 4294967296 s7 s8 A7 A8 n7 c7 n8 c8 w8 (PIo.new HR7.out HS8.out) HR8.out (by omega) (by omega)).mono ?_
  rw [show ((4294967296 : Int) * 4294967296) = 18446744073709551616 by decide, in_64.1, in_64.2]
  rintro e w9 ⟨s9, A9, n9, c9, rfl, hr9, hb9⟩
  have HR9 := Lib.hid hr9
  have HS9 := Lib.hid hb9
  have hn9 : n9 ≤ 100000 := small_len hr9 (by decide)
  clear hr9 hb9
  obtain ⟨x9, hx9⟩ : ∃ x, w9.alloc (.cells #[.bool s9, .slice A9 n9 c9] 31) = x := ⟨_, rfl⟩
  have HX9 := Lib.hid (show Below w9.heap.size w9 x9 by rw [← hx9]; exact (Below.refl _ w9).alloc (Nat.le_refl _) _)
  have HQ9 := Lib.hid (show P2 31 x9 w9.heap.size (.bool s9) (.slice A9 n9 c9) by rw [← hx9]; exact P2.lit _ _ _ _)
  obtain ⟨p90, p91⟩ := HQ9.out.cells
  go_wp2_with fail
  refine (psmall_any 18446744073709551616 s9 A9 n9 c9 x9 (PIo.new HR9.out HX9.out) (by omega)).mono ?_
  rintro e w10 ⟨he10, hb10⟩
  rw [show isSm 18446744073709551616 = false by decide] at he10
  generalize smV 18446744073709551616 = v10 at he10
  subst he10
  have HS10 := Lib.hid hb10
  clear hb10 hx9 hX3 hX6 p90 p91
  go_wp2_with fail
  refine (pparse_any [45, 48] w10 (by decide)).mono ?_
  rw [p_m0.1, p_m0.2]
  rintro e w11 ⟨s11, A11, n11, c11, rfl, hr11, hb11⟩
  have HS11 := Lib.hid hb11
  clear hr11 hb11
  obtain ⟨x11, hx11⟩ : ∃ x, w11.alloc (.cells #[.bool s11, .slice A11 n11 c11] 31) = x := ⟨_, rfl⟩
  have HX11 := Lib.hid (show Below w11.heap.size w11 x11 by rw [← hx11]; exact (Below.refl _ w11).alloc (Nat.le_refl _) _)
  go_wp2_with fail
  refine (pparse_any [48, 49] x11 (by decide)).mono ?_
  rw [p_01.1, p_01.2]
  rintro e w12 ⟨s12, A12, n12, c12, rfl, hr12, hb12⟩
  have HS12 := Lib.hid hb12
  clear hr12 hb12 hx11
  obtain ⟨x12, hx12⟩ : ∃ x, w12.alloc (.cells #[.bool s12, .slice A12 n12 c12] 31) = x := ⟨_, rfl⟩
  have HX12 := Lib.hid (show Below w12.heap.size w12 x12 by rw [← hx12]; exact (Below.refl _ w12).alloc (Nat.le_refl _) _)
  have Z1 := bt (bt (bt (bt HS10.out HS11.out) HX11.out) HS12.out) HX12.out
  have Z9 := Lib.hid (bt HX9.out Z1)
  have Z6 := Lib.hid (bt (bt (bt (bt HX6.out HS7.out) HS8.out) HS9.out) Z9.out)
  have Z3 := Lib.hid (bt (bt (bt (bt HX3.out HS4.out) HS5.out) HS6.out) Z6.out)
  have Z0 := Lib.hid (bt (bt (bt HS1.out HS2.out) HS3.out) Z3.out)
  have Q3 := Lib.hid (HQ3.out.new (bt (bt (bt (bt HS4.out HS5.out) HS6.out) Z6.out) (Below.refl _ _)))
  have U3 := Lib.hid (HZ3.out.new (bt (bt (bt HS4.out HS5.out) HS6.out) Z6.out))
  have Q6 := Lib.hid (HQ6.out.new (bt (bt (bt HS7.out HS8.out) HS9.out) Z9.out))
  have U6 := Lib.hid (HZ6.out.new (bt (bt (bt HS7.out HS8.out) HS9.out) Z9.out))
  have Q9 := Lib.hid (HQ9.out.new Z1)
  have P3 := Lib.hid (PIo.new HR3.out Z3.out)
  have O3 := Lib.hid (PIo.new HU3.out Z3.out)
  have P6 := Lib.hid (PIo.new HR6.out Z6.out)
  have O6 := Lib.hid (PIo.new HU6.out Z6.out)
  have P9 := Lib.hid (PIo.new HR9.out Z9.out)
  clear Z1 HS10 HS11 HX11 HS12 HX12 Z9 Z6 Z3 HX9 HX6 HX3 HS1 HS2 HS3 HS4 HS5 HS6 HS7 HS8 HS9 HQ3 HZ3 HQ6 HZ6 HQ9 HR3 HU3 HR6 HU6 HR9 HR1 HR2 HR4 HR5 HR7 HR8
  obtain ⟨e21, f21⟩ := (Q3.out).cells
  go_wp2_with fail
  refine (pstring_any (-4) s3 A3 n3 c3 x12 P3.out (by omega)).mono ?_
  rw [t_m4]
  rintro e y21 ⟨rfl, hb21⟩
  have HY21 := Lib.hid hb21
  clear hb21 e21 f21 hx12
  obtain ⟨e22, f22⟩ := (U3.out.new HY21.out).cells
  go_wp2_with fail
  refine (pstring_any (1) t3 D3 m3 d3 y21 (PIo.new O3.out HY21.out) (by omega)).mono ?_
  rw [t_1]
  rintro e y22 ⟨rfl, hb22⟩
  have HY22 := Lib.hid (bt HY21.out hb22)
  clear hb22 e22 f22
  obtain ⟨e23, f23⟩ := (Q6.out.new HY22.out).cells
  go_wp2_with fail
  refine (pstring_any (-3) s6 A6 n6 c6 y22 (PIo.new P6.out HY22.out) (by omega)).mono ?_
  rw [t_m3]
  rintro e y23 ⟨rfl, hb23⟩
  have HY23 := Lib.hid (bt HY22.out hb23)
  clear hb23 e23 f23
  obtain ⟨e24, f24⟩ := (U6.out.new HY23.out).cells
  go_wp2_with fail
  refine (pstring_any (1) t6 D6 m6 d6 y23 (PIo.new O6.out HY23.out) (by omega)).mono ?_
  rw [t_1]
  rintro e y24 ⟨rfl, hb24⟩
  have HY24 := Lib.hid (bt HY23.out hb24)
  clear hb24 e24 f24
  obtain ⟨e25, f25⟩ := (Q9.out.new HY24.out).cells
  go_wp2_with fail
  refine (pstring_any (18446744073709551616) s9 A9 n9 c9 y24 (PIo.new P9.out HY24.out) (by omega)).mono ?_
  rw [t_big]
  rintro e y25 ⟨rfl, hb25⟩
  have HY25 := Lib.hid (bt HY24.out hb25)
  clear hb25 e25 f25
  go_wp2_with fail
  go_ret
  exact ⟨rfl, bt Z0.out HY25.out⟩
end Go.Proofs.Ytlhccfmbfdaboaa

namespace Go.Proofs.Ytlhccfmbfdaboaa
open Go.RowKit
attribute [local go_sem ↓] Go.wp_at_zero Go.wp_at_succ
theorem extract_all (s : ByteArray) (m : Nat) (h : s.size ≤ m) : s.extract 0 m = s := by
  apply ByteArray.ext
  rw [ByteArray.data_extract, Array.extract_eq_self_of_le (by simpa using h)]
/-- n modulo most, never negative. -/
def aroundI (v : Int) (n : Nat) : Nat := ((if v < 0 then -(v + 1) else v) % (n : Int)).toNat
theorem aroundI_lt (v : Int) {n : Nat} (h : 1 ≤ n) : aroundI v n < n := by
  unfold aroundI
  have := Int.emod_lt_of_pos (if v < 0 then -(v + 1) else v) (show 0 < (n : Int) by omega)
  have := Int.emod_nonneg (if v < 0 then -(v + 1) else v) (show (n : Int) ≠ 0 by omega)
  omega
theorem around_any (v : Int) (n : Nat) (w : World) (h1 : 1 ≤ n) (hn : n ≤ 1000000) (hv : (Lit.int .i64 v).wf = true) :
    Calls Try.prog 22 #[.int .i64 v, .int .i64 n] w fun e w' => e = .returned (.int .i64 (aroundI v n : Nat)) ∧ w = w' := by
  have hb : -9223372036854775808 ≤ v ∧ v ≤ 9223372036854775807 := by
    simpa [Lit.wf, IntKind.min, IntKind.max, IntKind.signed, IntKind.bits] using hv
  obtain ⟨hb1, hb2⟩ := hb
  have e : ((aroundI v n : Nat) : Int) = (if v < 0 then -(v + 1) else v) % (n : Int) := by
    unfold aroundI
    have := Int.emod_nonneg (if v < 0 then -(v + 1) else v) (show (n : Int) ≠ 0 by omega)
    omega
  rw [e]
  clear e hv
  by_cases h : v < 0
  · rw [if_pos h, ← Int.tmod_eq_emod_of_nonneg (show 0 ≤ -(v + 1) by omega), Int.neg_tmod]
    go_enter Try.func22, Try.ntmps22
    go_wp2
    go_ret
    exact ⟨rfl, rfl⟩
  · rw [if_neg h]
    go_enter Try.func22, Try.ntmps22
    go_wp2
    go_ret
    exact ⟨rfl, rfl⟩
set_option maxRecDepth 100000 in
theorem pick_any (sv : Value) (xs : List Int) (i m : Nat) (w : World) (h : Got w sv xs) (hi : i ≤ 1000) (h1 : 1 ≤ m) (hm : m ≤ 1000000) :
    Calls Try.prog 62 #[sv, .int .i64 i, .int .i64 m] w fun e w' => (∃ k : Nat, e = .returned (.int .i64 (k : Int)) ∧ k < m) ∧ w = w' := by
  obtain ⟨hs, hl, hw⟩ := h
  unfold maxLen at hl
  have hi0 : ¬ (i : Int) < 0 := by omega
  rcases hs with ⟨rfl, rfl⟩ | ⟨ad, c, rfl, hc, hcell⟩
  · go_enter Try.func62, Try.ntmps62
    go_wp2
    go_ret
    exact ⟨⟨0, rfl, by omega⟩, rfl⟩
  · obtain ⟨n, hn⟩ : ∃ n, xs.length = n := ⟨_, rfl⟩
    have HN := Lib.hid hn
    rw [hn] at hl hc ⊢
    clear hn
    rcases Nat.lt_or_ge i n with hlt | hge
    · obtain ⟨v, hv⟩ : ∃ v, xs[i]? = some v := ⟨_, List.getElem?_eq_getElem (by rw [HN.out]; exact hlt)⟩
      have hcv := hcell i v hv
      have HA := Lib.hid (fun w' => around_any v m w' h1 hm (hw v (List.mem_of_getElem? hv)))
      clear hcell hw
      go_enter Try.func62, Try.ntmps62
      go_wp2_with fail
      refine (HA.out _).mono ?_
      rintro e w1 ⟨rfl, rfl⟩
      go_wp2
      go_ret
      exact ⟨⟨_, rfl, aroundI_lt _ h1⟩, rfl⟩
    · go_enter Try.func62, Try.ntmps62
      go_wp2
      go_ret
      exact ⟨⟨0, rfl, by omega⟩, rfl⟩
end Go.Proofs.Ytlhccfmbfdaboaa

namespace Go.Proofs.Ytlhccfmbfdaboaa
open Go.RowKit
attribute [local go_sem ↓] Go.wp_at_zero Go.wp_at_succ
/-- A bound of what Number makes. -/
def numB : Nat := 2 ^ 240
/-- What a function returns that returns some integer below a bound. -/
def RetSome (B : Nat) (w : World) (e : Ending) (w' : World) : Prop := ∃ (x : Int) (s : Bool) (A : Option Addr) (n c : Nat), e = .returned (.agg #[.bool s, .slice A n c]) ∧ RN w' s A n c x ∧ x.natAbs < B ∧ Below w.heap.size w w'
theorem num_step {e : Nat} {x m d : Int} {i : Nat} (he : e ≤ 224) (hm : m.natAbs ≤ 4) (hd : d.natAbs ≤ 2) (hx : x.natAbs ≤ i * 2 ^ 230) : (x + (((2 ^ e : Nat) : Int) * m + d)).natAbs ≤ (i + 1) * 2 ^ 230 := by
  have h1 : 2 ^ e ≤ 2 ^ 224 := Nat.pow_le_pow_right (by decide) he
  have h2 : (((2 ^ e : Nat) : Int) * m).natAbs ≤ 2 ^ 224 * 4 := by
    rw [Int.natAbs_mul, Int.natAbs_natCast]
    exact Nat.mul_le_mul h1 hm
  rw [Nat.add_mul, Nat.one_mul]
  have h3 : 2 ^ 224 * 4 + 2 ≤ 2 ^ 230 := by decide
  generalize (2 : Nat) ^ 230 = B at *
  generalize (2 : Nat) ^ 224 = C at *
  generalize ((2 ^ e : Nat) : Int) * m = p at *
  generalize i * B = D at *
  omega
theorem num_p {e : Nat} {m : Int} (he : e ≤ 224) (hm : m.natAbs ≤ 4) : (((2 ^ e : Nat) : Int) * m).natAbs < 2 ^ 230 := by
  have h1 : 2 ^ e ≤ 2 ^ 224 := Nat.pow_le_pow_right (by decide) he
  rw [Int.natAbs_mul, Int.natAbs_natCast]
  exact Nat.lt_of_le_of_lt (Nat.mul_le_mul h1 hm) (by decide)
theorem num_x {x : Int} {i : Nat} (hx : x.natAbs ≤ i * 2 ^ 230) (hi : i ≤ 5) : x.natAbs < 2 ^ 240 :=
  Nat.lt_of_le_of_lt (Nat.le_trans hx (Nat.mul_le_mul_right _ hi)) (by decide)
theorem num_yd {p d : Int} (hp : p.natAbs < 2 ^ 230) (hd : d.natAbs ≤ 2) : (p + d).natAbs < 2 ^ 250 := by
  have h : (2 : Nat) ^ 230 + 2 ≤ 2 ^ 250 := by decide
  generalize (2 : Nat) ^ 230 = B at *
  generalize (2 : Nat) ^ 250 = C at *
  omega
set_option maxRecDepth 100000 in
set_option maxHeartbeats 3200000 in
theorem number_any (sv : Value) (xs : List Int) (at_ : Nat) (w : World) (h : Got w sv xs) (hat : at_ ≤ 100) :
    Calls Try.prog 11 #[sv, .int .i64 (at_ : Int)] w (RetSome numB w) := by
  obtain ⟨W, hW⟩ : ∃ W, (w.alloc (.cells #[.bool false, .slice none 0 0] 24)).alloc (.cells #[.bool false, .slice none 0 0] 24) = W := ⟨_, rfl⟩
  have HK := Lib.hid (show Below w.heap.size w W by rw [← hW]; exact W2_k _ _ _ _ _ _)
  have HZ := Lib.hid (show P2 24 W w.heap.size (.bool false) (.slice none 0 0) by rw [← hW]; exact W2_a _ _ _ _ _ _)
  have HO := Lib.hid (show P2 24 W (w.heap.size + 1) (.bool false) (.slice none 0 0) by rw [← hW]; exact W2_z _ _ _ _ _ _)
  have HG := Lib.hid h
  have HLT := HO.out.lt
  clear h
  go_enter Try.func11, Try.ntmps11
  obtain ⟨q0, q1⟩ := HO.out.cells
  have qf0 := HO.out.frozen 0
  have qf1 := HO.out.frozen 1
  go_wp2_with fail
  clear hW q0 q1 qf0 qf1
  go_loopw [6] (fun v wr => ∃ (i : Nat) (x : Int) (s : Bool) (A : Option Addr) (n c : Nat), v = .int .i64 (i : Int) ∧ i ≤ 5 ∧ x.natAbs ≤ i * 2 ^ 230 ∧ P2 24 wr w.heap.size (.bool false) (.slice none 0 0) ∧ P2 24 wr (w.heap.size + 1) (.bool s) (.slice A n c) ∧ RN wr s A n c x ∧ Below w.heap.size w wr) (fun v _ => 5 - (intOf v).toNat)
  case atStart => exact ⟨0, 0, false, none, 0, 0, rfl, by omega, by simp, HZ.out.far2 (by omega) _ _, HO.out.all _ _, ⟨rfl, by rw [Int.natAbs_zero, digs_zero]; rfl, by rw [Int.natAbs_zero, digs_zero]; exact LO.nil⟩, below_box HK.out (by omega) _ _⟩
  case round =>
    obtain ⟨i, x, s, A, n, c, rfl, hi, hx, hz, ho, hr, hbel⟩ := hrel
    have HX := Lib.hid hx
    have HZ1 := Lib.hid hz
    have HO1 := Lib.hid ho
    have HR1 := Lib.hid hr
    have HB1 := Lib.hid hbel
    obtain ⟨o0, o1⟩ := ho.cells
    clear hx hz ho hr hbel
    go_wp2_with fail
    refine (pick_any sv xs at_ 5 wr (HG.out.new HB1.out) (by omega) (by decide) (by decide)).mono ?_
    rintro e w1 ⟨⟨k, rfl, hk5⟩, rfl⟩
    by_cases hik : (i : Int) < 1 + k
    · have hi4 : i ≤ 4 := by omega
      go_wp2_with fail
      rw [show ((at_ : Int) + 1 + (i : Int)) = ((at_ + 1 + i : Nat) : Int) by omega]
      refine (pick_any sv xs (at_ + 1 + i) 1000000 wr (HG.out.new HB1.out) (by omega) (by decide) (by decide)).mono ?_
      rintro e w1 ⟨⟨m, rfl, hm⟩, rfl⟩
      obtain ⟨z, hz⟩ : ∃ z : Int, (m : Int) = z := ⟨_, rfl⟩
      rw [hz]
      have hz1 : 0 ≤ z := by omega
      have hz2 : z < 1000000 := by omega
      have HZZ := Lib.hid hz
      clear hz
      go_wp2_with fail
      rw [show (32 * (z % 7) + z / 7 % 5 * 8 : Int) = ((32 * (m % 7) + m / 7 % 5 * 8 : Nat) : Int) by have := HZZ.out; omega]
      have he224 : 32 * (m % 7) + m / 7 % 5 * 8 ≤ 224 := by omega
      generalize 32 * (m % 7) + m / 7 % 5 * 8 = e2 at he224 ⊢
      refine (power_any e2 wr (by omega)).mono ?_
      rintro e w2 ⟨s2, A2, n2, c2, rfl, hr2, hb2⟩
      have HR2 := Lib.hid hr2
      have HB2 := Lib.hid hb2
      have hn2 : n2 ≤ 225 := rn_len hr2 (by rw [Int.natAbs_natCast]; exact Nat.pow_lt_pow_right (by decide) (by omega))
      clear hr2 hb2 o0 o1
      go_wp2_with fail
      obtain ⟨m4, hm4⟩ : ∃ m4 : Int, z / 35 % 9 - 4 = m4 := ⟨_, rfl⟩
      rw [hm4]
      have hm4b : -4 ≤ m4 ∧ m4 ≤ 4 := by omega
      clear hm4
      refine (of_any m4 w2 (WalkArith.wf_i64 (by omega))).mono ?_
      rintro e w3 ⟨s3, A3, n3, c3, rfl, hr3, hb3⟩
      have HR3 := Lib.hid hr3
      have HR23 := Lib.hid (HR2.out.new hb3)
      have HB3 := Lib.hid (bt HB2.out hb3)
      have hn3 : n3 ≤ 4 := rn_len hr3 (by omega)
      clear hr3 hb3
      go_wp2_with fail
      refine (mul_any ((2 ^ e2 : Nat) : Int) m4 s2 s3 A2 A3 n2 c2 n3 c3 w3 HR23.out HR3.out (by omega) (by omega)).mono ?_
      rintro e w4 ⟨s4, A4, n4, c4, rfl, hr4, hb4⟩
      have HR4 := Lib.hid hr4
      have HB4 := Lib.hid (bt HB3.out hb4)
      clear hr4 hb4
      have hn4 : n4 ≤ 230 := rn_len HR4.out (num_p he224 (by omega))
      obtain ⟨x4, hx4⟩ : ∃ x, w4.alloc (.cells #[.bool s4, .slice A4 n4 c4] 24) = x := ⟨_, rfl⟩
      have HX4 := Lib.hid (show Below wr.heap.size wr x4.drew by rw [← hx4]; exact (HB4.out.alloc HB4.out.size _).drew)
      have HP4 := Lib.hid (show P2 24 x4.drew w4.heap.size (.bool s4) (.slice A4 n4 c4) by rw [← hx4]; exact P2.lit _ _ _ _)
      have HR5 := Lib.hid (show RN x4.drew s4 A4 n4 c4 (((2 ^ e2 : Nat) : Int) * m4) by rw [← hx4]; exact ⟨HR4.out.1, HR4.out.2.1, (HR4.out.2.2.alloc _).drew⟩)
      have HO5 := Lib.hid (show P2 24 x4.drew (w.heap.size + 1) (.bool s) (.slice A n c) from HO1.out.new HX4.out)
      have HR6 := Lib.hid (show RN x4.drew s A n c x from HR1.out.new HX4.out)
      have HG4 := Lib.hid (show wr.heap.size ≤ w4.heap.size from HB4.out.size)
      have hn0 : n ≤ 240 := rn_len HR1.out (num_x HX.out hi)
      obtain ⟨d5, hd5⟩ : ∃ d : Int, z / 315 % 5 - 2 = d := ⟨_, rfl⟩
      have hd5b : -2 ≤ d5 ∧ d5 ≤ 2 := by omega
      have HW5 := Lib.hid (show IntKind.i64.wrap ((IntKind.i64.wrap (z.tdiv 315)).tmod 5 - 2) = d5 by
        rw [IntWalk.i64_quo z 315 ⟨hz1, by omega, by decide⟩, Int.tmod_eq_emod_of_nonneg (by omega), IntWalk.i64_in _ (by omega)]
        exact hd5)
      have HWF := Lib.hid (show (Lit.int .i64 (z / 315 % 5 - 2)).wf = true from WalkArith.wf_i64 (by omega))
      have HWFd := Lib.hid (show (Lit.int .i64 d5).wf = true from WalkArith.wf_i64 (by omega))
      have HST := Lib.hid (num_step (x := x) (m := m4) (d := d5) he224 (by omega) (by omega) HX.out)
      obtain ⟨o50, o51⟩ := HO5.out.cells
      obtain ⟨p50, p51⟩ := HP4.out.cells
      obtain ⟨y5, hy5⟩ : ∃ y, ((2 ^ e2 : Nat) : Int) * m4 = y := ⟨_, rfl⟩
      rw [hy5] at HR5 HST
      clear HR4 HR3 HR23 HR2 HB2 HB3
      go_wp2_with fail
      have HY7 := Lib.hid (num_yd (d := d5) (num_p (m := m4) he224 (by omega)) (by omega))
      rw [hy5] at HY7
      clear hy5
      go_region_with (first | (go_at_call 14; rw [HW5.out]; refine (of_any d5 _ HWFd.out).mono ?_; rintro e w6 ⟨s6, A6, n6, c6, rfl, hr6, hb6⟩; have hn6 : n6 ≤ 4 := rn_len hr6 (by omega); have HR16 := Lib.hid (HR5.out.new hb6); have HO6 := Lib.hid (HO5.out.new hb6); have HP6 := Lib.hid (HP4.out.new hb6); have HB6 := Lib.hid (bt HX4.out hb6); obtain ⟨o60, o61⟩ := HO6.out.cells; obtain ⟨p60, p61⟩ := HP6.out.cells; have HR66 := Lib.hid hr6; clear hr6 hb6) | (go_at_call_of 12 s4; refine (add_any y5 d5 s4 s6 A4 A6 n4 c4 n6 c6 _ HR16.out HR66.out (by omega) (by omega)).mono ?_; rintro e w7 ⟨s7, A7, n7, c7, rfl, hr7, hb7⟩; have hn7 : n7 ≤ 250 := rn_len hr7 HY7.out; have HO7 := Lib.hid (HO6.out.new hb7); have HB7 := Lib.hid (bt HB6.out hb7); obtain ⟨o70, o71⟩ := HO7.out.cells; have HR77 := Lib.hid hr7; clear hr7 hb7) | (go_at_call 12; refine (add_any x (y5 + d5) s s7 A A7 n c n7 c7 _ (HR1.out.new HB7.out) HR77.out (by omega) (by omega)).mono ?_; rintro e w8 ⟨s8, A8, n8, c8, rfl, hr8, hb8⟩; have HO8 := Lib.hid (HO7.out.new hb8); have HB8 := Lib.hid (bt HB7.out hb8); obtain ⟨o80, o81⟩ := HO8.out.cells; have of0 := HO8.out.frozen 0; have of1 := HO8.out.frozen 1; have HR8 := Lib.hid hr8; clear hr8 hb8))
      all_goals
        go_wp2
        go_roundw
        case rel => exact ⟨i + 1, _, s8, A8, n8, c8, by go_num, by omega, HST.out, (HZ1.out.new HB8.out).far2 (by omega) _ _, HO8.out.all _ _, HR8.out.box HO8.out rfl rfl _ _, below_box (HB1.out.trans (HB8.out.mono HB1.out.size)) (by omega) _ _⟩
        case measure => simp [intOf]; omega
    · obtain ⟨z0, z1⟩ := HZ1.out.cells
      have f0 := HZ1.out.frozen 0
      have f1 := HZ1.out.frozen 1
      go_wp2_with fail
      exact bodyPost_ret (results_cell_row rfl _ _ _ _ _ _ _ rfl (HZ1.out.all (.bool s) (.slice A n c)) Try.underlying24 rfl N_size) rfl ⟨x, s, A, n, c, rfl, HR1.out.box HZ1.out rfl rfl _ _, num_x HX.out hi, below_box HB1.out (Nat.le_refl _) _ _⟩
end Go.Proofs.Ytlhccfmbfdaboaa

namespace Go.Proofs.Ytlhccfmbfdaboaa
open Go.RowKit
attribute [local go_sem ↓] Go.wp_at_zero Go.wp_at_succ
theorem bound_any (v : Int) (m : Nat) (w : World) (hm : m ≤ 1000) (hv : (Lit.int .i64 v).wf = true) :
    Calls Try.prog 21 #[.int .i64 v, .int .i64 (m : Int)] w fun e w' => (∃ d : Int, e = .returned (.int .i64 d) ∧ d.natAbs ≤ m) ∧ w = w' := by
  have HA := Lib.hid (around_any v (2 * m + 1) w (by omega) (by omega) hv)
  have HL := Lib.hid (aroundI_lt v (n := 2 * m + 1) (by omega))
  generalize aroundI v (2 * m + 1) = k at HA HL
  have hk := HL.out
  go_enter Try.func21, Try.ntmps21
  go_wp2_with fail
  rw [show (2 * (m : Int) + 1) = ((2 * m + 1 : Nat) : Int) by omega]
  refine HA.out.mono ?_
  rintro e w1 ⟨rfl, rfl⟩
  go_wp2
  go_ret
  exact ⟨⟨(k : Int) - m, rfl, by omega⟩, rfl⟩
end Go.Proofs.Ytlhccfmbfdaboaa

namespace Go.Proofs.Ytlhccfmbfdaboaa
open Go.RowKit
theorem num_lt {x : Int} (h : x.natAbs < numB) : x.natAbs < 2 ^ 240 := h
theorem num_lim {x : Int} (h : x.natAbs < numB) : x.natAbs < lim := two_lim (num_lt h) (by decide)
theorem numB2 {x : Int} (h : x.natAbs < numB) : x.natAbs < B2 240 := h
end Go.Proofs.Ytlhccfmbfdaboaa

