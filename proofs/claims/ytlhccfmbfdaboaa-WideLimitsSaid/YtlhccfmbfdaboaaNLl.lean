/- The walk of WideLimits: the law returns true for every input; what lay lies as it lay. -/
import Derived.Test.YtlhccfmbfdaboaaNRj
import Derived.Test.YtlhccfmbfdaboaaNLg
namespace Go.Proofs.Ytlhccfmbfdaboaa
open Go.RowKit
attribute [local go_sem ↓] Go.wp_at_zero Go.wp_at_succ
theorem plim0 {w : World} {s : Bool} {A : Option Addr} {n c : Nat} {x : Int} (h : PI w s A n c x) (hx : x.natAbs < lim) : n ≤ 512 := by
  have := (fits_iff x.natAbs).2 hx
  rw [h.2.1] at this
  exact this
theorem pow_three (E : Nat) : 2 ^ E + 3 < 2 ^ (E + 2) + 1 := by
  have h : 0 < 2 ^ E := Nat.pow_pos (by decide)
  rw [Nat.pow_succ, Nat.pow_succ]
  omega
theorem near_le (v : Int) : (nearV v).natAbs ≤ 2 ^ nearE (aroundI v 28 % 4) + 3 := by
  have h := aroundI_lt v (n := 28) (by decide)
  unfold nearV
  generalize 2 ^ nearE (aroundI v 28 % 4) = M
  generalize aroundI v 28 = k at *
  split <;> omega
theorem nearE_le (r : Nat) : nearE r ≤ 16384 := by
  unfold nearE
  split
  · exact Nat.le_refl _
  · split
    · omega
    · split <;> omega
theorem near_two (v : Int) : (nearV v).natAbs < B2 (nearE (aroundI v 28 % 4) + 3) := by
  have h1 := near_le v
  have h2 := pow_three (nearE (aroundI v 28 % 4))
  have h3 : 2 ^ (nearE (aroundI v 28 % 4) + 2) < 2 ^ (nearE (aroundI v 28 % 4) + 3) := Nat.pow_lt_pow_right (by decide) (by omega)
  unfold B2
  omega
theorem near_big (v : Int) : (nearV v).natAbs < B2 16387 := B2.le (near_two v) (by have := nearE_le (aroundI v 28 % 4); omega)
theorem near_under (v : Int) : (nearV v).natAbs < big := by
  have h1 := near_le v
  have h2 : 2 ^ nearE (aroundI v 28 % 4) ≤ lim := by
    rw [lim_two]
    exact Nat.pow_le_pow_right (by decide) (nearE_le _)
  have h3 : 2 ^ 2 ≤ lim := by
    rw [lim_two]
    exact Nat.pow_le_pow_right (by decide) (by decide)
  rw [big_lim]
  omega
theorem near_mid {a : Nat} (ha : a < 7) : (nearV (4 * (a : Int) + 2)).natAbs < B2 8195 := by
  have h1 : aroundI (4 * (a : Int) + 2) 28 = 4 * a + 2 := by
    unfold aroundI
    rw [if_neg (by omega)]
    omega
  have h2 := near_two (4 * (a : Int) + 2)
  rw [h1, show (4 * a + 2) % 4 = 2 by omega, show nearE 2 = 8192 from rfl] at h2
  exact h2
theorem outV_lim (x : Int) : (outV x).natAbs < lim := by
  unfold outV
  split
  · assumption
  · rw [lim_two]; exact Nat.pow_pos (by decide)
theorem lt_B2 {x k j : Nat} (h : x < 2 ^ k) (hk : k ≤ j) : x < B2 j := Nat.lt_of_lt_of_le h (Nat.pow_le_pow_right (by decide) hk)
theorem outV_two (x : Int) : (outV x).natAbs < B2 16384 := lt_B2 (k := 32 * limE) (by rw [← lim_two]; exact outV_lim x) (by decide)
theorem outVC (z : Int) : (z.natAbs < lim ∧ outV z = z ∧ outC z = 0) ∨ (¬ z.natAbs < lim ∧ outV z = 0 ∧ outC z = 4) := by
  unfold outV outC
  by_cases h : z.natAbs < lim
  · exact .inl ⟨h, if_pos h, if_pos h⟩
  · exact .inr ⟨h, if_neg h, if_neg h⟩
/-- Block b is known whole. -/
def BK (t : TypeId) (w : World) (b : Nat) (cs : Array Value) : Prop := w.heap[b]? = some (.cells cs t (0, 0))
theorem BK.lt {t : TypeId} {w : World} {b : Nat} {cs : Array Value} (h : BK t w b cs) : b < w.heap.size := (Array.getElem?_eq_some_iff.1 h).1
theorem BK.new {t : TypeId} {w w' : World} {b : Nat} {cs : Array Value} (h : BK t w b cs) (hb : Below w.heap.size w w') : BK t w' b cs := (hb.block b h.lt).trans h
theorem BK.lit (w : World) (t : TypeId) (cs : Array Value) : BK t (w.alloc (.cells cs t)) w.heap.size cs := heap_alloc_new w _
theorem keep2 {a b c : World} {p : Addr} {v : Value} (h1 : Below a.heap.size a b) (h2 : Below b.heap.size b c) (h : a.cell? p = some v) : c.cell? p = some v := ((bt h1 h2).cell (World.block_lt_of_cell? a _ h)).trans h
/-- Four results, their errors, and what the reference has. -/
def Quad (w : World) (G E B : Nat) : Prop := ∀ i, i < 4 → ∃ (v : Int) (s : Bool) (A : Option Addr) (n c : Nat) (s' : Bool) (A' : Option Addr) (n' c' : Nat), w.cell? ⟨G, i * 2, none⟩ = some (.bool s) ∧ w.cell? ⟨G, i * 2 + 1, none⟩ = some (.slice A n c) ∧ PI w s A n c (outV v) ∧ w.cell? ⟨E, i, none⟩ = some (.int .i64 (outC v)) ∧ w.cell? ⟨B, i * 2, none⟩ = some (.bool s') ∧ w.cell? ⟨B, i * 2 + 1, none⟩ = some (.slice A' n' c') ∧ RN w s' A' n' c' v ∧ v.natAbs < B2 16390
theorem quad_new {w w' : World} {G E B : Nat} (h : Quad w G E B) (hb : Below w.heap.size w w') : Quad w' G E B := by
  intro i hi
  obtain ⟨v, s, A, n, c, s', A', n', c', e0, e1, h1, e2, e3, e4, h2, h3⟩ := h i hi
  have k : ∀ {p : Addr} {v : Value}, w.cell? p = some v → w'.cell? p = some v := fun {p v} h => (hb.cell (World.block_lt_of_cell? w _ h)).trans h
  exact ⟨v, s, A, n, c, s', A', n', c', k e0, k e1, PIo.new h1 hb, k e2, k e3, k e4, h2.new hb, h3⟩
theorem quad_of {w : World} {G E B : Nat} {t u v : TypeId} (x0 x1 x2 x3 : Int) {s0 s1 s2 s3 r0 r1 r2 r3 : Bool} {A0 A1 A2 A3 D0 D1 D2 D3 : Option Addr} {n0 n1 n2 n3 c0 c1 c2 c3 m0 m1 m2 m3 d0 d1 d2 d3 : Nat}
    (hg : BK t w G #[.bool s0, .slice A0 n0 c0, .bool s1, .slice A1 n1 c1, .bool s2, .slice A2 n2 c2, .bool s3, .slice A3 n3 c3])
    (he : BK u w E #[.int .i64 (outC x0), .int .i64 (outC x1), .int .i64 (outC x2), .int .i64 (outC x3)])
    (hb : BK v w B #[.bool r0, .slice D0 m0 d0, .bool r1, .slice D1 m1 d1, .bool r2, .slice D2 m2 d2, .bool r3, .slice D3 m3 d3])
    (p0 : PI w s0 A0 n0 c0 (outV x0)) (p1 : PI w s1 A1 n1 c1 (outV x1)) (p2 : PI w s2 A2 n2 c2 (outV x2)) (p3 : PI w s3 A3 n3 c3 (outV x3))
    (q0 : RN w r0 D0 m0 d0 x0) (q1 : RN w r1 D1 m1 d1 x1) (q2 : RN w r2 D2 m2 d2 x2) (q3 : RN w r3 D3 m3 d3 x3)
    (l0 : x0.natAbs < B2 16390) (l1 : x1.natAbs < B2 16390) (l2 : x2.natAbs < B2 16390) (l3 : x3.natAbs < B2 16390) : Quad w G E B := by
  intro i hi
  match i, hi with
  | 0, _ => exact ⟨x0, s0, A0, n0, c0, r0, D0, m0, d0, (cell_of_row _ _ _ _ t (0, 0) hg).trans rfl, (cell_of_row _ _ _ _ t (0, 0) hg).trans rfl, p0, (cell_of_row _ _ _ _ u (0, 0) he).trans rfl, (cell_of_row _ _ _ _ v (0, 0) hb).trans rfl, (cell_of_row _ _ _ _ v (0, 0) hb).trans rfl, q0, l0⟩
  | 1, _ => exact ⟨x1, s1, A1, n1, c1, r1, D1, m1, d1, (cell_of_row _ _ _ _ t (0, 0) hg).trans rfl, (cell_of_row _ _ _ _ t (0, 0) hg).trans rfl, p1, (cell_of_row _ _ _ _ u (0, 0) he).trans rfl, (cell_of_row _ _ _ _ v (0, 0) hb).trans rfl, (cell_of_row _ _ _ _ v (0, 0) hb).trans rfl, q1, l1⟩
  | 2, _ => exact ⟨x2, s2, A2, n2, c2, r2, D2, m2, d2, (cell_of_row _ _ _ _ t (0, 0) hg).trans rfl, (cell_of_row _ _ _ _ t (0, 0) hg).trans rfl, p2, (cell_of_row _ _ _ _ u (0, 0) he).trans rfl, (cell_of_row _ _ _ _ v (0, 0) hb).trans rfl, (cell_of_row _ _ _ _ v (0, 0) hb).trans rfl, q2, l2⟩
  | 3, _ => exact ⟨x3, s3, A3, n3, c3, r3, D3, m3, d3, (cell_of_row _ _ _ _ t (0, 0) hg).trans rfl, (cell_of_row _ _ _ _ t (0, 0) hg).trans rfl, p3, (cell_of_row _ _ _ _ u (0, 0) he).trans rfl, (cell_of_row _ _ _ _ v (0, 0) hb).trans rfl, (cell_of_row _ _ _ _ v (0, 0) hb).trans rfl, q3, l3⟩
set_option maxRecDepth 100000 in
set_option maxHeartbeats 6400000 in
theorem wideLimits_walk (u m k : Int) (w : World) (hnw : (Lit.int .i64 u).wf = true) (hmw : (Lit.int .i64 m).wf = true) (hkw : (Lit.int .i64 k).wf = true) :
    Calls Try.prog 4 #[.int .i64 u, .int .i64 m, .int .i64 k] w fun e w' => e = .returned (.bool true) ∧ Below w.heap.size w w' := by
  have HNW := Lib.hid hnw
  have HMW := Lib.hid hmw
  have HKW := Lib.hid hkw
  have HNA := Lib.hid (near_big u)
  have HNG := Lib.hid (near_under u)
  clear hnw hmw hkw
  go_enter Try.func4, Try.ntmps4
  go_wp2_with fail
  refine (near_any u w HNW.out).mono ?_
  rintro e w1 ⟨s1, A1, n1, c1, rfl, hr1, hb1⟩
  obtain ⟨x1, hx1⟩ : ∃ z, w1.alloc (.cells #[.bool s1, .slice A1 n1 c1] 24) = z := ⟨_, rfl⟩
  have HB1 := Lib.hid (show Below w.heap.size w x1 by rw [← hx1]; exact hb1.alloc hb1.size _)
  have HQ1 := Lib.hid (show P2 24 x1 w1.heap.size (.bool s1) (.slice A1 n1 c1) by rw [← hx1]; exact P2.lit _ _ _ _)
  have HR1 := Lib.hid (show RN x1 s1 A1 n1 c1 (nearV u) by rw [← hx1]; exact hr1.new ((Below.refl _ _).alloc (Nat.le_refl _) _))
  have hn1 : n1 ≤ 16387 := B2.rlen hr1 HNA.out
  clear hr1 hb1
  have HW_1 := Lib.hid (HB1.out)
  clear HB1
  go_wp2_with fail
  refine (bound_any k 3 x1 (by decide) HKW.out).mono ?_
  rintro e w0' ⟨⟨d, rfl, hd⟩, rfl⟩
  have HD := Lib.hid (show d.natAbs < B2 2 from Nat.lt_succ_of_le hd)
  have hdw : (Lit.int .i64 d).wf = true := WalkArith.wf_i64 (by omega)
  have HDW := Lib.hid hdw
  clear hd hdw
  go_wp2_with fail
  refine (of_any d x1 HDW.out).mono ?_
  rintro e w2 ⟨s2, A2, n2, c2, rfl, hr2, hb2⟩
  obtain ⟨x2, hx2⟩ : ∃ z, w2.alloc (.cells #[.bool s2, .slice A2 n2 c2] 24) = z := ⟨_, rfl⟩
  have HB2 := Lib.hid (show Below x1.heap.size x1 x2 by rw [← hx2]; exact hb2.alloc hb2.size _)
  have HQ2 := Lib.hid (show P2 24 x2 w2.heap.size (.bool s2) (.slice A2 n2 c2) by rw [← hx2]; exact P2.lit _ _ _ _)
  have HR2 := Lib.hid (show RN x2 s2 A2 n2 c2 (d) by rw [← hx2]; exact hr2.new ((Below.refl _ _).alloc (Nat.le_refl _) _))
  have hn2 : n2 ≤ 2 := B2.rlen hr2 HD.out
  clear hr2 hb2
  have HQ1_2 := Lib.hid (HQ1.out.new HB2.out)
  have HR1_2 := Lib.hid (HR1.out.new HB2.out)
  have HW_2 := Lib.hid (bt HW_1.out HB2.out)
  clear HQ1 HR1 HW_1 hx1 HB2
  go_wp2_with fail
  have HAL := Lib.hid (aroundI_lt m (n := 7) (by decide))
  have HAR := Lib.hid (fun w => around_any m 7 w (by decide) (by decide) HMW.out)
  generalize aroundI m 7 = q at HAL HAR
  refine (HAR.out x2).mono ?_
  rintro e w0' ⟨rfl, rfl⟩
  have hq := HAL.out
  have HMD := Lib.hid (near_mid (a := q) hq)
  have hw1 : IntKind.i64.wrap (4 * (q : Int)) = 4 * (q : Int) := IntWalk.i64_in _ (by omega)
  have hw2 : IntKind.i64.wrap (4 * (q : Int) + 2) = 4 * (q : Int) + 2 := IntWalk.i64_in _ (by omega)
  have HZW := Lib.hid (show (Lit.int .i64 (4 * (q : Int) + 2)).wf = true from WalkArith.wf_i64 (by omega))
  clear hq
  go_wp2_with fail
  refine (near_any (4 * (q : Int) + 2) x2 HZW.out).mono ?_
  rintro e w3 ⟨s3, A3, n3, c3, rfl, hr3, hb3⟩
  obtain ⟨x3, hx3⟩ : ∃ z, w3.alloc (.cells #[.bool s3, .slice A3 n3 c3] 24) = z := ⟨_, rfl⟩
  have HB3 := Lib.hid (show Below x2.heap.size x2 x3 by rw [← hx3]; exact hb3.alloc hb3.size _)
  have HQ3 := Lib.hid (show P2 24 x3 w3.heap.size (.bool s3) (.slice A3 n3 c3) by rw [← hx3]; exact P2.lit _ _ _ _)
  have HR3 := Lib.hid (show RN x3 s3 A3 n3 c3 (nearV (4 * (q : Int) + 2)) by rw [← hx3]; exact hr3.new ((Below.refl _ _).alloc (Nat.le_refl _) _))
  have hn3 : n3 ≤ 8195 := B2.rlen hr3 HMD.out
  clear hr3 hb3
  have HQ1_3 := Lib.hid (HQ1_2.out.new HB3.out)
  have HR1_3 := Lib.hid (HR1_2.out.new HB3.out)
  have HQ2_3 := Lib.hid (HQ2.out.new HB3.out)
  have HR2_3 := Lib.hid (HR2.out.new HB3.out)
  have HW_3 := Lib.hid (bt HW_2.out HB3.out)
  clear HQ1_2 HR1_2 HQ2 HR2 HW_2 hx2 HB3
  clear hw1 hw2 HAR HAL HZW
  obtain ⟨X, hX⟩ : ∃ X, nearV u = X := ⟨_, rfl⟩
  obtain ⟨C, hC⟩ : ∃ X, nearV (4 * (q : Int) + 2) = X := ⟨_, rfl⟩
  rw [hX] at HNA HNG HR1_3
  rw [hC] at HMD HR3
  clear hX hC
  have HPS := Lib.hid (ps_decI HNG.out)
  have HTL := Lib.hid (decI_short HNG.out)
  obtain ⟨D, hD⟩ : ∃ D, decI X = D := ⟨_, rfl⟩
  have HDD := Lib.hid hD
  rw [hD] at HPS HTL
  clear hD
  obtain ⟨a1_4, b1_4⟩ := HQ1_3.out.cells
  go_wp2_with fail
  refine (text_any X s1 A1 n1 c1 x3 HR1_3.out (by omega)).mono ?_
  rw [HDD.out]
  rintro e w4 ⟨rfl, hb4⟩
  have HB4 := Lib.hid hb4
  clear hb4
  have HQ1_4 := Lib.hid (HQ1_3.out.new HB4.out)
  have HR1_4 := Lib.hid (HR1_3.out.new HB4.out)
  have HQ2_4 := Lib.hid (HQ2_3.out.new HB4.out)
  have HR2_4 := Lib.hid (HR2_3.out.new HB4.out)
  have HQ3_4 := Lib.hid (HQ3.out.new HB4.out)
  have HR3_4 := Lib.hid (HR3.out.new HB4.out)
  have HW_4 := Lib.hid (bt HW_3.out HB4.out)
  clear HQ1_3 HR1_3 HQ2_3 HR2_3 HQ3 HR3 HW_3 hx3 a1_4 b1_4 HB4
  go_wp2_with fail
  refine (pparse_any D w4 (by have := HTL.out; omega)).mono ?_
  rw [HPS.out.1, HPS.out.2]
  rintro e w5 ⟨s5, A5, n5, c5, rfl, hr5, hb5⟩
  obtain ⟨x5, hx5⟩ : ∃ z, w5.alloc (.cells #[.bool s5, .slice A5 n5 c5] 31) = z := ⟨_, rfl⟩
  have HB5 := Lib.hid (show Below w4.heap.size w4 x5 by rw [← hx5]; exact hb5.alloc hb5.size _)
  have HQ5 := Lib.hid (show P2 31 x5 w5.heap.size (.bool s5) (.slice A5 n5 c5) by rw [← hx5]; exact P2.lit _ _ _ _)
  have HR5 := Lib.hid (show PI x5 s5 A5 n5 c5 (outV X) by rw [← hx5]; exact PIo.new hr5 ((Below.refl _ _).alloc (Nat.le_refl _) _))
  have hn5 : n5 ≤ 512 := plim0 hr5 (outV_lim X)
  clear hr5 hb5
  have HQ1_5 := Lib.hid (HQ1_4.out.new HB5.out)
  have HR1_5 := Lib.hid (HR1_4.out.new HB5.out)
  have HQ2_5 := Lib.hid (HQ2_4.out.new HB5.out)
  have HR2_5 := Lib.hid (HR2_4.out.new HB5.out)
  have HQ3_5 := Lib.hid (HQ3_4.out.new HB5.out)
  have HR3_5 := Lib.hid (HR3_4.out.new HB5.out)
  have HW_5 := Lib.hid (bt HW_4.out HB5.out)
  clear HQ1_4 HR1_4 HQ2_4 HR2_4 HQ3_4 HR3_4 HW_4 HB5
  obtain ⟨a1_6, b1_6⟩ := HQ1_5.out.cells
  go_wp2_with fail
  refine (text_any X s1 A1 n1 c1 x5 HR1_5.out (by omega)).mono ?_
  rw [HDD.out]
  rintro e w6 ⟨rfl, hb6⟩
  have HB6 := Lib.hid hb6
  clear hb6
  have HQ1_6 := Lib.hid (HQ1_5.out.new HB6.out)
  have HR1_6 := Lib.hid (HR1_5.out.new HB6.out)
  have HQ2_6 := Lib.hid (HQ2_5.out.new HB6.out)
  have HR2_6 := Lib.hid (HR2_5.out.new HB6.out)
  have HQ3_6 := Lib.hid (HQ3_5.out.new HB6.out)
  have HR3_6 := Lib.hid (HR3_5.out.new HB6.out)
  have HQ5_6 := Lib.hid (HQ5.out.new HB6.out)
  have HR5_6 := Lib.hid (PIo.new HR5.out HB6.out)
  have HW_6 := Lib.hid (bt HW_5.out HB6.out)
  clear HQ1_5 HR1_5 HQ2_5 HR2_5 HQ3_5 HR3_5 HQ5 HR5 HW_5 hx5 a1_6 b1_6 HB6
  go_wp2_with fail
  refine (rparse_any D w6 (by have := HTL.out; omega)).mono ?_
  rw [HPS.out.1, HPS.out.2]
  rintro e w7 ⟨s7, A7, n7, c7, rfl, hr7, hb7⟩
  obtain ⟨x7, hx7⟩ : ∃ z, w7.alloc (.cells #[.bool s7, .slice A7 n7 c7] 24) = z := ⟨_, rfl⟩
  have HB7 := Lib.hid (show Below w6.heap.size w6 x7 by rw [← hx7]; exact hb7.alloc hb7.size _)
  have HQ7 := Lib.hid (show P2 24 x7 w7.heap.size (.bool s7) (.slice A7 n7 c7) by rw [← hx7]; exact P2.lit _ _ _ _)
  have HR7 := Lib.hid (show RN x7 s7 A7 n7 c7 (outV X) by rw [← hx7]; exact hr7.new ((Below.refl _ _).alloc (Nat.le_refl _) _))
  have hn7 : n7 ≤ 20000 := by have := B2.rlen hr7 (outV_two X); omega
  clear hr7 hb7
  have HQ1_7 := Lib.hid (HQ1_6.out.new HB7.out)
  have HR1_7 := Lib.hid (HR1_6.out.new HB7.out)
  have HQ2_7 := Lib.hid (HQ2_6.out.new HB7.out)
  have HR2_7 := Lib.hid (HR2_6.out.new HB7.out)
  have HQ3_7 := Lib.hid (HQ3_6.out.new HB7.out)
  have HR3_7 := Lib.hid (HR3_6.out.new HB7.out)
  have HQ5_7 := Lib.hid (HQ5_6.out.new HB7.out)
  have HR5_7 := Lib.hid (PIo.new HR5_6.out HB7.out)
  have HW_7 := Lib.hid (bt HW_6.out HB7.out)
  clear HQ1_6 HR1_6 HQ2_6 HR2_6 HQ3_6 HR3_6 HQ5_6 HR5_6 HW_6 HB7
  clear HR7 HQ7
  obtain ⟨a2_8, b2_8⟩ := HQ2_7.out.cells
  go_wp2_with fail
  refine (wider_any d s2 A2 n2 c2 x7 HR2_7.out (by omega) (B2.lim HD.out (by decide))).mono ?_
  rintro e w8 ⟨s8, A8, n8, c8, rfl, hr8, hb8⟩
  obtain ⟨x8, hx8⟩ : ∃ z, w8.alloc (.cells #[.bool s8, .slice A8 n8 c8] 31) = z := ⟨_, rfl⟩
  have HB8 := Lib.hid (show Below x7.heap.size x7 x8 by rw [← hx8]; exact hb8.alloc hb8.size _)
  have HQ8 := Lib.hid (show P2 31 x8 w8.heap.size (.bool s8) (.slice A8 n8 c8) by rw [← hx8]; exact P2.lit _ _ _ _)
  have HR8 := Lib.hid (show PI x8 s8 A8 n8 c8 (d) by rw [← hx8]; exact PIo.new hr8 ((Below.refl _ _).alloc (Nat.le_refl _) _))
  have hn8 : n8 ≤ 512 := plim0 hr8 (B2.lim HD.out (by decide))
  clear hr8 hb8
  have HQ1_8 := Lib.hid (HQ1_7.out.new HB8.out)
  have HR1_8 := Lib.hid (HR1_7.out.new HB8.out)
  have HQ2_8 := Lib.hid (HQ2_7.out.new HB8.out)
  have HR2_8 := Lib.hid (HR2_7.out.new HB8.out)
  have HQ3_8 := Lib.hid (HQ3_7.out.new HB8.out)
  have HR3_8 := Lib.hid (HR3_7.out.new HB8.out)
  have HQ5_8 := Lib.hid (HQ5_7.out.new HB8.out)
  have HR5_8 := Lib.hid (PIo.new HR5_7.out HB8.out)
  have HW_8 := Lib.hid (bt HW_7.out HB8.out)
  clear HQ1_7 HR1_7 HQ2_7 HR2_7 HQ3_7 HR3_7 HQ5_7 HR5_7 HW_7 hx7 a2_8 b2_8 HB8
  obtain ⟨a3_9, b3_9⟩ := HQ3_8.out.cells
  go_wp2_with fail
  refine (wider_any C s3 A3 n3 c3 x8 HR3_8.out (by omega) (B2.lim HMD.out (by decide))).mono ?_
  rintro e w9 ⟨s9, A9, n9, c9, rfl, hr9, hb9⟩
  obtain ⟨x9, hx9⟩ : ∃ z, w9.alloc (.cells #[.bool s9, .slice A9 n9 c9] 31) = z := ⟨_, rfl⟩
  have HB9 := Lib.hid (show Below x8.heap.size x8 x9 by rw [← hx9]; exact hb9.alloc hb9.size _)
  have HQ9 := Lib.hid (show P2 31 x9 w9.heap.size (.bool s9) (.slice A9 n9 c9) by rw [← hx9]; exact P2.lit _ _ _ _)
  have HR9 := Lib.hid (show PI x9 s9 A9 n9 c9 (C) by rw [← hx9]; exact PIo.new hr9 ((Below.refl _ _).alloc (Nat.le_refl _) _))
  have hn9 : n9 ≤ 512 := plim0 hr9 (B2.lim HMD.out (by decide))
  clear hr9 hb9
  have HQ1_9 := Lib.hid (HQ1_8.out.new HB9.out)
  have HR1_9 := Lib.hid (HR1_8.out.new HB9.out)
  have HQ2_9 := Lib.hid (HQ2_8.out.new HB9.out)
  have HR2_9 := Lib.hid (HR2_8.out.new HB9.out)
  have HQ3_9 := Lib.hid (HQ3_8.out.new HB9.out)
  have HR3_9 := Lib.hid (HR3_8.out.new HB9.out)
  have HQ5_9 := Lib.hid (HQ5_8.out.new HB9.out)
  have HR5_9 := Lib.hid (PIo.new HR5_8.out HB9.out)
  have HQ8_9 := Lib.hid (HQ8.out.new HB9.out)
  have HR8_9 := Lib.hid (PIo.new HR8.out HB9.out)
  have HW_9 := Lib.hid (bt HW_8.out HB9.out)
  clear HQ1_8 HR1_8 HQ2_8 HR2_8 HQ3_8 HR3_8 HQ5_8 HR5_8 HQ8 HR8 HW_8 hx8 a3_9 b3_9 HB9
  clear HPS HTL HDD
  have hov := outVC X
  obtain ⟨a5_9, b5_9⟩ := HQ5_9.out.cells
  rcases hov with ⟨ho, hv, hc⟩ | ⟨ho, hv, hc⟩
  rotate_left
  · rw [hc]
    rw [hv] at HR5_9
    clear ho hv hc
    go_wp2_with fail
    refine (equal_any 0 0 s5 false A5 none n5 c5 0 0 x9 HR5_9.out (RN.zero x9) (by omega) (by omega)).mono ?_
    rw [eqB_self]
    rintro e wz ⟨rfl, hbz⟩
    have HBz := Lib.hid (bt HW_9.out hbz)
    clear hbz
    go_wp2_with fail
    refine (lives_any wz).mono ?_
    rintro e wy ⟨rfl, hby⟩
    have HBy := Lib.hid (bt HBz.out hby)
    clear hby
    go_wp2
    go_ret
    exact ⟨rfl, HBy.out⟩
  rw [hc]
  rw [hv] at HR5_9
  have HXL := Lib.hid ho
  clear ho hv hc
  obtain ⟨a5_10, b5_10⟩ := HQ5_9.out.cells
  obtain ⟨a8_10, b8_10⟩ := HQ8_9.out.cells
  go_wp2_with fail
  refine (padd_any X d s5 s8 A5 A8 n5 c5 n8 c8 x9 HR5_9.out HR8_9.out (by omega) (by omega) HXL.out (B2.lim HD.out (by decide))).mono ?_
  rintro e w10 ⟨s10, A10, n10, c10, rfl, hr10, hb10⟩
  obtain ⟨x10, hx10⟩ : ∃ z, w10.alloc (.cells #[.bool s10, .slice A10 n10 c10] 31) = z := ⟨_, rfl⟩
  have HB10 := Lib.hid (show Below x9.heap.size x9 x10 by rw [← hx10]; exact hb10.alloc hb10.size _)
  have HQ10 := Lib.hid (show P2 31 x10 w10.heap.size (.bool s10) (.slice A10 n10 c10) by rw [← hx10]; exact P2.lit _ _ _ _)
  have HR10 := Lib.hid (show PI x10 s10 A10 n10 c10 (outV (X + d)) by rw [← hx10]; exact PIo.new hr10 ((Below.refl _ _).alloc (Nat.le_refl _) _))
  have hn10 : n10 ≤ 512 := plim0 hr10 (outV_lim _)
  clear hr10 hb10
  have HQ1_10 := Lib.hid (HQ1_9.out.new HB10.out)
  have HR1_10 := Lib.hid (HR1_9.out.new HB10.out)
  have HQ2_10 := Lib.hid (HQ2_9.out.new HB10.out)
  have HR2_10 := Lib.hid (HR2_9.out.new HB10.out)
  have HQ3_10 := Lib.hid (HQ3_9.out.new HB10.out)
  have HR3_10 := Lib.hid (HR3_9.out.new HB10.out)
  have HQ5_10 := Lib.hid (HQ5_9.out.new HB10.out)
  have HR5_10 := Lib.hid (PIo.new HR5_9.out HB10.out)
  have HQ8_10 := Lib.hid (HQ8_9.out.new HB10.out)
  have HR8_10 := Lib.hid (PIo.new HR8_9.out HB10.out)
  have HQ9_10 := Lib.hid (HQ9.out.new HB10.out)
  have HR9_10 := Lib.hid (PIo.new HR9.out HB10.out)
  have HW_10 := Lib.hid (bt HW_9.out HB10.out)
  clear HQ1_9 HR1_9 HQ2_9 HR2_9 HQ3_9 HR3_9 HQ5_9 HR5_9 HQ8_9 HR8_9 HQ9 HR9 HW_9 hx9 a5_9 b5_9 a5_10 b5_10 a8_10 b8_10 HB10
  obtain ⟨a5_11, b5_11⟩ := HQ5_10.out.cells
  obtain ⟨a8_11, b8_11⟩ := HQ8_10.out.cells
  go_wp2_with fail
  refine (psub_any X d s5 s8 A5 A8 n5 c5 n8 c8 x10 HR5_10.out HR8_10.out (by omega) (by omega) HXL.out (B2.lim HD.out (by decide))).mono ?_
  rintro e w11 ⟨s11, A11, n11, c11, rfl, hr11, hb11⟩
  obtain ⟨x11, hx11⟩ : ∃ z, w11.alloc (.cells #[.bool s11, .slice A11 n11 c11] 31) = z := ⟨_, rfl⟩
  have HB11 := Lib.hid (show Below x10.heap.size x10 x11 by rw [← hx11]; exact hb11.alloc hb11.size _)
  have HQ11 := Lib.hid (show P2 31 x11 w11.heap.size (.bool s11) (.slice A11 n11 c11) by rw [← hx11]; exact P2.lit _ _ _ _)
  have HR11 := Lib.hid (show PI x11 s11 A11 n11 c11 (outV (X - d)) by rw [← hx11]; exact PIo.new hr11 ((Below.refl _ _).alloc (Nat.le_refl _) _))
  have hn11 : n11 ≤ 512 := plim0 hr11 (outV_lim _)
  clear hr11 hb11
  have HQ1_11 := Lib.hid (HQ1_10.out.new HB11.out)
  have HR1_11 := Lib.hid (HR1_10.out.new HB11.out)
  have HQ2_11 := Lib.hid (HQ2_10.out.new HB11.out)
  have HR2_11 := Lib.hid (HR2_10.out.new HB11.out)
  have HQ3_11 := Lib.hid (HQ3_10.out.new HB11.out)
  have HR3_11 := Lib.hid (HR3_10.out.new HB11.out)
  have HQ5_11 := Lib.hid (HQ5_10.out.new HB11.out)
  have HR5_11 := Lib.hid (PIo.new HR5_10.out HB11.out)
  have HQ8_11 := Lib.hid (HQ8_10.out.new HB11.out)
  have HR8_11 := Lib.hid (PIo.new HR8_10.out HB11.out)
  have HQ9_11 := Lib.hid (HQ9_10.out.new HB11.out)
  have HR9_11 := Lib.hid (PIo.new HR9_10.out HB11.out)
  have HQ10_11 := Lib.hid (HQ10.out.new HB11.out)
  have HR10_11 := Lib.hid (PIo.new HR10.out HB11.out)
  have HW_11 := Lib.hid (bt HW_10.out HB11.out)
  clear HQ1_10 HR1_10 HQ2_10 HR2_10 HQ3_10 HR3_10 HQ5_10 HR5_10 HQ8_10 HR8_10 HQ9_10 HR9_10 HQ10 HR10 HW_10 hx10 a5_11 b5_11 a8_11 b8_11 HB11
  obtain ⟨a5_12, b5_12⟩ := HQ5_11.out.cells
  obtain ⟨a8_12, b8_12⟩ := HQ8_11.out.cells
  go_wp2_with fail
  refine (pmul_any X d s5 s8 A5 A8 n5 c5 n8 c8 x11 HR5_11.out HR8_11.out (by omega) (by omega)).mono ?_
  rintro e w12 ⟨s12, A12, n12, c12, rfl, hr12, hb12⟩
  obtain ⟨x12, hx12⟩ : ∃ z, w12.alloc (.cells #[.bool s12, .slice A12 n12 c12] 31) = z := ⟨_, rfl⟩
  have HB12 := Lib.hid (show Below x11.heap.size x11 x12 by rw [← hx12]; exact hb12.alloc hb12.size _)
  have HQ12 := Lib.hid (show P2 31 x12 w12.heap.size (.bool s12) (.slice A12 n12 c12) by rw [← hx12]; exact P2.lit _ _ _ _)
  have HR12 := Lib.hid (show PI x12 s12 A12 n12 c12 (outV (X * d)) by rw [← hx12]; exact PIo.new hr12 ((Below.refl _ _).alloc (Nat.le_refl _) _))
  have hn12 : n12 ≤ 512 := plim0 hr12 (outV_lim _)
  clear hr12 hb12
  have HQ1_12 := Lib.hid (HQ1_11.out.new HB12.out)
  have HR1_12 := Lib.hid (HR1_11.out.new HB12.out)
  have HQ2_12 := Lib.hid (HQ2_11.out.new HB12.out)
  have HR2_12 := Lib.hid (HR2_11.out.new HB12.out)
  have HQ3_12 := Lib.hid (HQ3_11.out.new HB12.out)
  have HR3_12 := Lib.hid (HR3_11.out.new HB12.out)
  have HQ5_12 := Lib.hid (HQ5_11.out.new HB12.out)
  have HR5_12 := Lib.hid (PIo.new HR5_11.out HB12.out)
  have HQ8_12 := Lib.hid (HQ8_11.out.new HB12.out)
  have HR8_12 := Lib.hid (PIo.new HR8_11.out HB12.out)
  have HQ9_12 := Lib.hid (HQ9_11.out.new HB12.out)
  have HR9_12 := Lib.hid (PIo.new HR9_11.out HB12.out)
  have HQ10_12 := Lib.hid (HQ10_11.out.new HB12.out)
  have HR10_12 := Lib.hid (PIo.new HR10_11.out HB12.out)
  have HQ11_12 := Lib.hid (HQ11.out.new HB12.out)
  have HR11_12 := Lib.hid (PIo.new HR11.out HB12.out)
  have HW_12 := Lib.hid (bt HW_11.out HB12.out)
  clear HQ1_11 HR1_11 HQ2_11 HR2_11 HQ3_11 HR3_11 HQ5_11 HR5_11 HQ8_11 HR8_11 HQ9_11 HR9_11 HQ10_11 HR10_11 HQ11 HR11 HW_11 hx11 a5_12 b5_12 a8_12 b8_12 HB12
  obtain ⟨a9_13, b9_13⟩ := HQ9_12.out.cells
  go_wp2_with fail
  refine (pmul_any C C s9 s9 A9 A9 n9 c9 n9 c9 x12 HR9_12.out HR9_12.out (by omega) (by omega)).mono ?_
  rintro e w13 ⟨s13, A13, n13, c13, rfl, hr13, hb13⟩
  obtain ⟨x13, hx13⟩ : ∃ z, w13.alloc (.cells #[.bool s13, .slice A13 n13 c13] 31) = z := ⟨_, rfl⟩
  have HB13 := Lib.hid (show Below x12.heap.size x12 x13 by rw [← hx13]; exact hb13.alloc hb13.size _)
  have HQ13 := Lib.hid (show P2 31 x13 w13.heap.size (.bool s13) (.slice A13 n13 c13) by rw [← hx13]; exact P2.lit _ _ _ _)
  have HR13 := Lib.hid (show PI x13 s13 A13 n13 c13 (outV (C * C)) by rw [← hx13]; exact PIo.new hr13 ((Below.refl _ _).alloc (Nat.le_refl _) _))
  have hn13 : n13 ≤ 512 := plim0 hr13 (outV_lim _)
  clear hr13 hb13
  have HQ1_13 := Lib.hid (HQ1_12.out.new HB13.out)
  have HR1_13 := Lib.hid (HR1_12.out.new HB13.out)
  have HQ2_13 := Lib.hid (HQ2_12.out.new HB13.out)
  have HR2_13 := Lib.hid (HR2_12.out.new HB13.out)
  have HQ3_13 := Lib.hid (HQ3_12.out.new HB13.out)
  have HR3_13 := Lib.hid (HR3_12.out.new HB13.out)
  have HQ5_13 := Lib.hid (HQ5_12.out.new HB13.out)
  have HR5_13 := Lib.hid (PIo.new HR5_12.out HB13.out)
  have HQ8_13 := Lib.hid (HQ8_12.out.new HB13.out)
  have HR8_13 := Lib.hid (PIo.new HR8_12.out HB13.out)
  have HQ9_13 := Lib.hid (HQ9_12.out.new HB13.out)
  have HR9_13 := Lib.hid (PIo.new HR9_12.out HB13.out)
  have HQ10_13 := Lib.hid (HQ10_12.out.new HB13.out)
  have HR10_13 := Lib.hid (PIo.new HR10_12.out HB13.out)
  have HQ11_13 := Lib.hid (HQ11_12.out.new HB13.out)
  have HR11_13 := Lib.hid (PIo.new HR11_12.out HB13.out)
  have HQ12_13 := Lib.hid (HQ12.out.new HB13.out)
  have HR12_13 := Lib.hid (PIo.new HR12.out HB13.out)
  have HW_13 := Lib.hid (bt HW_12.out HB13.out)
  clear HQ1_12 HR1_12 HQ2_12 HR2_12 HQ3_12 HR3_12 HQ5_12 HR5_12 HQ8_12 HR8_12 HQ9_12 HR9_12 HQ10_12 HR10_12 HQ11_12 HR11_12 HQ12 HR12 HW_12 hx12 a9_13 b9_13 HB13
  clear HR5_13 HQ5_13 HR8_13 HQ8_13 HR9_13 HQ9_13
  obtain ⟨a10_13, b10_13⟩ := HQ10_13.out.cells
  obtain ⟨a11_13, b11_13⟩ := HQ11_13.out.cells
  obtain ⟨a12_13, b12_13⟩ := HQ12_13.out.cells
  obtain ⟨a13_13, b13_13⟩ := HQ13.out.cells
  obtain ⟨xg, hxg⟩ : ∃ z, x13.alloc (.cells #[.bool s10, .slice A10 n10 c10, .bool s11, .slice A11 n11 c11, .bool s12, .slice A12 n12 c12, .bool s13, .slice A13 n13 c13] 31) = z := ⟨_, rfl⟩
  obtain ⟨xe, hxe⟩ : ∃ z, xg.alloc (.cells #[.int .i64 (outC (X + d)), .int .i64 (outC (X - d)), .int .i64 (outC (X * d)), .int .i64 (outC (C * C))] 34) = z := ⟨_, rfl⟩
  have HGB := Lib.hid (show BK 31 xe x13.heap.size #[.bool s10, .slice A10 n10 c10, .bool s11, .slice A11 n11 c11, .bool s12, .slice A12 n12 c12, .bool s13, .slice A13 n13 c13] by rw [← hxe, ← hxg]; exact (BK.lit _ _ _).new ((Below.refl _ _).alloc (Nat.le_refl _) _))
  have HEB := Lib.hid (show BK 34 xe xg.heap.size #[.int .i64 (outC (X + d)), .int .i64 (outC (X - d)), .int .i64 (outC (X * d)), .int .i64 (outC (C * C))] by rw [← hxe]; exact BK.lit _ _ _)
  have HBGE := Lib.hid (show Below x13.heap.size x13 xe by rw [← hxe, ← hxg]; exact ((Below.refl _ _).alloc (Nat.le_refl _) _).alloc (by simp) _)
  obtain ⟨G, hG⟩ : ∃ g, x13.heap.size = g := ⟨_, rfl⟩
  obtain ⟨E, hE⟩ : ∃ g, xg.heap.size = g := ⟨_, rfl⟩
  rw [hG] at HGB
  rw [hE] at HEB
  go_upto_region 18 with fail
  clear hxg hxe hG hE
  have HQ1_14 := Lib.hid (HQ1_13.out.new HBGE.out)
  have HR1_14 := Lib.hid (HR1_13.out.new HBGE.out)
  have HQ2_14 := Lib.hid (HQ2_13.out.new HBGE.out)
  have HR2_14 := Lib.hid (HR2_13.out.new HBGE.out)
  have HQ3_14 := Lib.hid (HQ3_13.out.new HBGE.out)
  have HR3_14 := Lib.hid (HR3_13.out.new HBGE.out)
  have HQ10_14 := Lib.hid (HQ10_13.out.new HBGE.out)
  have HR10_14 := Lib.hid (PIo.new HR10_13.out HBGE.out)
  have HQ11_14 := Lib.hid (HQ11_13.out.new HBGE.out)
  have HR11_14 := Lib.hid (PIo.new HR11_13.out HBGE.out)
  have HQ12_14 := Lib.hid (HQ12_13.out.new HBGE.out)
  have HR12_14 := Lib.hid (PIo.new HR12_13.out HBGE.out)
  have HQ13_14 := Lib.hid (HQ13.out.new HBGE.out)
  have HR13_14 := Lib.hid (PIo.new HR13.out HBGE.out)
  have HW_14 := Lib.hid (bt HW_13.out HBGE.out)
  clear HQ1_13 HR1_13 HQ2_13 HR2_13 HQ3_13 HR3_13 HQ10_13 HR10_13 HQ11_13 HR11_13 HQ12_13 HR12_13 HQ13 HR13 HW_13 hx13 a10_13 b10_13 a11_13 b11_13 a12_13 b12_13 a13_13 b13_13 HBGE
  have HS : Hid (∀ w', Below xe.heap.size xe w' → (fun w' : World => w'.cell? ⟨w1.heap.size, 0, none⟩ = some (.bool s1) ∧ w'.cell? ⟨w1.heap.size, 1, none⟩ = some (.slice A1 n1 c1) ∧ w'.cell? ⟨w2.heap.size, 0, none⟩ = some (.bool s2) ∧ w'.cell? ⟨w2.heap.size, 1, none⟩ = some (.slice A2 n2 c2) ∧ w'.cell? ⟨w3.heap.size, 0, none⟩ = some (.bool s3) ∧ w'.cell? ⟨w3.heap.size, 1, none⟩ = some (.slice A3 n3 c3) ∧ Below xe.heap.size xe w') w') := Lib.hid (fun w' hb => ⟨(HQ1_14.out.new hb).cells.1, (HQ1_14.out.new hb).cells.2, (HQ2_14.out.new hb).cells.1, (HQ2_14.out.new hb).cells.2, (HQ3_14.out.new hb).cells.1, (HQ3_14.out.new hb).cells.2, hb⟩)
  have HXX := Lib.hid (Below.refl xe.heap.size xe)
  go_cut [28] (fun v wx => ∃ (B : Nat) (s1 s2 s3 s4 : Bool) (A1 A2 A3 A4 : Option Addr) (n1 n2 n3 n4 c1 c2 c3 c4 : Nat), v = .slice (some ⟨B, 0, none⟩) 4 4 ∧ BK 24 wx B #[.bool s1, .slice A1 n1 c1, .bool s2, .slice A2 n2 c2, .bool s3, .slice A3 n3 c3, .bool s4, .slice A4 n4 c4] ∧ RN wx s1 A1 n1 c1 (X + d) ∧ RN wx s2 A2 n2 c2 (X - d) ∧ RN wx s3 A3 n3 c3 (X * d) ∧ RN wx s4 A4 n4 c4 (C * C) ∧ Below xe.heap.size xe wx)
  case first =>
    obtain ⟨v0, hv0⟩ : ∃ z, World.drew xe = z := ⟨_, rfl⟩
    have HD0 := Lib.hid (show Below xe.heap.size xe v0 by rw [← hv0]; exact (Below.refl _ _).drew)
    have HX_0 := Lib.hid (bt HXX.out HD0.out)
    have RA_0 := Lib.hid ((HR1_14.out).new HD0.out)
    have RB_0 := Lib.hid ((HR2_14.out).new HD0.out)
    have RC_0 := Lib.hid ((HR3_14.out).new HD0.out)
    refine wp_region_held_drew (S := (fun w' : World => w'.cell? ⟨w1.heap.size, 0, none⟩ = some (.bool s1) ∧ w'.cell? ⟨w1.heap.size, 1, none⟩ = some (.slice A1 n1 c1) ∧ w'.cell? ⟨w2.heap.size, 0, none⟩ = some (.bool s2) ∧ w'.cell? ⟨w2.heap.size, 1, none⟩ = some (.slice A2 n2 c2) ∧ w'.cell? ⟨w3.heap.size, 0, none⟩ = some (.bool s3) ∧ w'.cell? ⟨w3.heap.size, 1, none⟩ = some (.slice A3 n3 c3) ∧ Below xe.heap.size xe w')) (by kernel_rfl) ?_ (fun hHeld => ?_)
    · rw [hv0]
      exact HS.out _ HX_0.out
    rw [hv0] at hHeld ⊢
    clear hv0 HD0
    refine wpAnyH_take (i := 0) (v := ?_) rfl (by kernel_rfl) (by kernel_rfl) (by kernel_rfl) (fun _ _ _ h => h) (Or.inl ⟨by kernel_rfl, ?_⟩) (by assumption) ?_
    rotate_left
    · intro w hSw
      (try dsimp only at hSw)
      go_simp
      all_goals (with_reducible rfl)
    try simp only [Act.put, List.getElem_toArray, List.getElem_cons_zero, List.setIfInBounds_toArray, List.set_cons_zero, List.set_cons_succ]
    refine wpAnyH_take (i := 1) (v := ?_) rfl (by kernel_rfl) (by kernel_rfl) (by kernel_rfl) (fun _ _ _ h => h) (Or.inl ⟨by kernel_rfl, ?_⟩) (by assumption) ?_
    rotate_left
    · intro w hSw
      (try dsimp only at hSw)
      go_simp
      all_goals (with_reducible rfl)
    try simp only [Act.put, List.getElem_toArray, List.getElem_cons_zero, List.getElem_cons_succ, List.setIfInBounds_toArray, List.set_cons_zero, List.set_cons_succ]
    refine wpAnyH_take (i := 3) (v := ?_) rfl (by kernel_rfl) (by kernel_rfl) (by kernel_rfl) (fun _ _ _ h => h) (Or.inl ⟨by kernel_rfl, ?_⟩) (by assumption) ?_
    rotate_left
    · intro w hSw
      (try dsimp only at hSw)
      go_simp
      all_goals (with_reducible rfl)
    try simp only [Act.put, List.getElem_toArray, List.getElem_cons_zero, List.getElem_cons_succ, List.setIfInBounds_toArray, List.set_cons_zero, List.set_cons_succ]
    refine wpAnyH_take (i := 4) (v := ?_) rfl (by kernel_rfl) (by kernel_rfl) (by kernel_rfl) (fun _ _ _ h => h) (Or.inl ⟨by kernel_rfl, ?_⟩) (by assumption) ?_
    rotate_left
    · intro w hSw
      (try dsimp only at hSw)
      go_simp
      all_goals (with_reducible rfl)
    try simp only [Act.put, List.getElem_toArray, List.getElem_cons_zero, List.getElem_cons_succ, List.setIfInBounds_toArray, List.set_cons_zero, List.set_cons_succ]
    refine wpAnyH_take (i := 6) (v := ?_) rfl (by kernel_rfl) (by kernel_rfl) (by kernel_rfl) (fun _ _ _ h => h) (Or.inl ⟨by kernel_rfl, ?_⟩) (by assumption) ?_
    rotate_left
    · intro w hSw
      (try dsimp only at hSw)
      go_simp
      all_goals (with_reducible rfl)
    try simp only [Act.put, List.getElem_toArray, List.getElem_cons_zero, List.getElem_cons_succ, List.setIfInBounds_toArray, List.set_cons_zero, List.set_cons_succ]
    refine wpAnyH_take (i := 7) (v := ?_) rfl (by kernel_rfl) (by kernel_rfl) (by kernel_rfl) (fun _ _ _ h => h) (Or.inl ⟨by kernel_rfl, ?_⟩) (by assumption) ?_
    rotate_left
    · intro w hSw
      (try dsimp only at hSw)
      go_simp
      all_goals (with_reducible rfl)
    try simp only [Act.put, List.getElem_toArray, List.getElem_cons_zero, List.getElem_cons_succ, List.setIfInBounds_toArray, List.set_cons_zero, List.set_cons_succ]
    refine wpAnyH_take (i := 9) (v := ?_) rfl (by kernel_rfl) (by kernel_rfl) (by kernel_rfl) (fun _ _ _ h => h) (Or.inl ⟨by kernel_rfl, ?_⟩) (by assumption) ?_
    rotate_left
    · intro w hSw
      (try dsimp only at hSw)
      go_simp
      all_goals (with_reducible rfl)
    try simp only [Act.put, List.getElem_toArray, List.getElem_cons_zero, List.getElem_cons_succ, List.setIfInBounds_toArray, List.set_cons_zero, List.set_cons_succ]
    refine wpAnyH_take (i := 10) (v := ?_) rfl (by kernel_rfl) (by kernel_rfl) (by kernel_rfl) (fun _ _ _ h => h) (Or.inl ⟨by kernel_rfl, ?_⟩) (by assumption) ?_
    rotate_left
    · intro w hSw
      (try dsimp only at hSw)
      go_simp
      all_goals (with_reducible rfl)
    try simp only [Act.put, List.getElem_toArray, List.getElem_cons_zero, List.getElem_cons_succ, List.setIfInBounds_toArray, List.set_cons_zero, List.set_cons_succ]
    refine wpAnyH_ready (rs := [2]) (by kernel_rfl) (by simp) ?_
    refine AllReadyH.cons rfl (fun K hK => ?_) AllReadyH.nil
    go_simp
    go_at_call_of 12 (#[Value.agg #[.bool s1, .slice A1 n1 c1], Value.agg #[.bool s2, .slice A2 n2 c2]])
    refine (add_any X d s1 s2 A1 A2 n1 c1 n2 c2 v0 (RA_0.out) (RB_0.out) (by omega) (by omega)).mono ?_
    rintro e v1 ⟨t1, T1, m1, d1, rfl, hr, hk⟩
    have E1_1 := Lib.hid (hr)
    have HB_1 := Lib.hid hk
    go_wp2_with fail
    have HX_1 := Lib.hid (bt HX_0.out HB_1.out)
    have RA_1 := Lib.hid ((RA_0.out).new HB_1.out)
    have RB_1 := Lib.hid ((RB_0.out).new HB_1.out)
    have RC_1 := Lib.hid ((RC_0.out).new HB_1.out)
    refine hK.out _ _ (HS.out _ HX_1.out) (fun hHeld2 => ?_)
    clear hHeld
    have hHeld := hHeld2
    clear hHeld2 hK K hk HB_1 hr HX_0 RA_0 RB_0 RC_0
    try simp only [Act.put, List.getElem_toArray, List.getElem_cons_zero, List.getElem_cons_succ, List.setIfInBounds_toArray, List.set_cons_zero, List.set_cons_succ]
    refine wpAnyH_ready (rs := [5]) (by kernel_rfl) (by simp) ?_
    refine AllReadyH.cons rfl (fun K hK => ?_) AllReadyH.nil
    go_simp
    go_at_call_of 29 (#[Value.agg #[.bool s1, .slice A1 n1 c1], Value.agg #[.bool s2, .slice A2 n2 c2]])
    refine (sub_any X d s1 s2 A1 A2 n1 c1 n2 c2 v1 (RA_1.out) (RB_1.out) (by omega) (by omega)).mono ?_
    rintro e v2 ⟨t2, T2, m2, d2, rfl, hr, hk⟩
    have E2_2 := Lib.hid (hr)
    have HB_2 := Lib.hid hk
    go_wp2_with fail
    have HX_2 := Lib.hid (bt HX_1.out HB_2.out)
    have RA_2 := Lib.hid ((RA_1.out).new HB_2.out)
    have RB_2 := Lib.hid ((RB_1.out).new HB_2.out)
    have RC_2 := Lib.hid ((RC_1.out).new HB_2.out)
    have E1_2 := Lib.hid ((E1_1.out).new HB_2.out)
    refine hK.out _ _ (HS.out _ HX_2.out) (fun hHeld2 => ?_)
    clear hHeld
    have hHeld := hHeld2
    clear hHeld2 hK K hk HB_2 hr HX_1 RA_1 RB_1 RC_1 E1_1
    try simp only [Act.put, List.getElem_toArray, List.getElem_cons_zero, List.getElem_cons_succ, List.setIfInBounds_toArray, List.set_cons_zero, List.set_cons_succ]
    refine wpAnyH_ready (rs := [8]) (by kernel_rfl) (by simp) ?_
    refine AllReadyH.cons rfl (fun K hK => ?_) AllReadyH.nil
    go_simp
    go_at_call_of 13 (#[Value.agg #[.bool s1, .slice A1 n1 c1], Value.agg #[.bool s2, .slice A2 n2 c2]])
    refine (mul_any X d s1 s2 A1 A2 n1 c1 n2 c2 v2 (RA_2.out) (RB_2.out) (by omega) (by omega)).mono ?_
    rintro e v3 ⟨t3, T3, m3, d3, rfl, hr, hk⟩
    have E3_3 := Lib.hid (hr)
    have HB_3 := Lib.hid hk
    go_wp2_with fail
    have HX_3 := Lib.hid (bt HX_2.out HB_3.out)
    have RA_3 := Lib.hid ((RA_2.out).new HB_3.out)
    have RB_3 := Lib.hid ((RB_2.out).new HB_3.out)
    have RC_3 := Lib.hid ((RC_2.out).new HB_3.out)
    have E1_3 := Lib.hid ((E1_2.out).new HB_3.out)
    have E2_3 := Lib.hid ((E2_2.out).new HB_3.out)
    refine hK.out _ _ (HS.out _ HX_3.out) (fun hHeld2 => ?_)
    clear hHeld
    have hHeld := hHeld2
    clear hHeld2 hK K hk HB_3 hr HX_2 RA_2 RB_2 RC_2 E1_2 E2_2
    try simp only [Act.put, List.getElem_toArray, List.getElem_cons_zero, List.getElem_cons_succ, List.setIfInBounds_toArray, List.set_cons_zero, List.set_cons_succ]
    refine wpAnyH_ready (rs := [11]) (by kernel_rfl) (by simp) ?_
    refine AllReadyH.cons rfl (fun K hK => ?_) AllReadyH.nil
    go_simp
    go_at_call_of 13 (#[Value.agg #[.bool s3, .slice A3 n3 c3], Value.agg #[.bool s3, .slice A3 n3 c3]])
    refine (mul_any C C s3 s3 A3 A3 n3 c3 n3 c3 v3 (RC_3.out) (RC_3.out) (by omega) (by omega)).mono ?_
    rintro e v4 ⟨t4, T4, m4, d4, rfl, hr, hk⟩
    have E4_4 := Lib.hid (hr)
    have HB_4 := Lib.hid hk
    go_wp2_with fail
    have HX_4 := Lib.hid (bt HX_3.out HB_4.out)
    have RA_4 := Lib.hid ((RA_3.out).new HB_4.out)
    have RB_4 := Lib.hid ((RB_3.out).new HB_4.out)
    have RC_4 := Lib.hid ((RC_3.out).new HB_4.out)
    have E1_4 := Lib.hid ((E1_3.out).new HB_4.out)
    have E2_4 := Lib.hid ((E2_3.out).new HB_4.out)
    have E3_4 := Lib.hid ((E3_3.out).new HB_4.out)
    refine hK.out _ _ (HS.out _ HX_4.out) (fun hHeld2 => ?_)
    clear hHeld
    have hHeld := hHeld2
    clear hHeld2 hK K hk HB_4 hr HX_3 RA_3 RB_3 RC_3 E1_3 E2_3 E3_3
    try simp only [Act.put, List.getElem_toArray, List.getElem_cons_zero, List.getElem_cons_succ, List.setIfInBounds_toArray, List.set_cons_zero, List.set_cons_succ]
    refine wpAnyH_ready (rs := [12]) (by kernel_rfl) (by simp) ?_
    refine AllReadyH.cons rfl (fun K hK => ?_) AllReadyH.nil
    go_simp
    have HB_5 := Lib.hid ((Below.refl v4.heap.size v4).alloc (Nat.le_refl _) (.cells #[.bool t1, .slice T1 m1 d1, .bool t2, .slice T2 m2 d2, .bool t3, .slice T3 m3 d3, .bool t4, .slice T4 m4 d4] 24))
    have HP_w_5 := Lib.hid (BK.lit v4 24 #[.bool t1, .slice T1 m1 d1, .bool t2, .slice T2 m2 d2, .bool t3, .slice T3 m3 d3, .bool t4, .slice T4 m4 d4])
    obtain ⟨v5, hV⟩ : ∃ z, World.alloc v4 (.cells #[.bool t1, .slice T1 m1 d1, .bool t2, .slice T2 m2 d2, .bool t3, .slice T3 m3 d3, .bool t4, .slice T4 m4 d4] 24) = z := ⟨_, rfl⟩
    obtain ⟨gw, hg⟩ : ∃ z, v4.heap.size = z := ⟨_, rfl⟩
    rw [hV] at HB_5 HP_w_5  ⊢
    rw [hg] at HP_w_5  ⊢
    have HG_w := Lib.hid (show xe.heap.size ≤ gw by rw [← hg]; exact HX_4.out.size)
    have HX_5 := Lib.hid (bt HX_4.out HB_5.out)
    have RA_5 := Lib.hid ((RA_4.out).new HB_5.out)
    have RB_5 := Lib.hid ((RB_4.out).new HB_5.out)
    have RC_5 := Lib.hid ((RC_4.out).new HB_5.out)
    have E1_5 := Lib.hid ((E1_4.out).new HB_5.out)
    have E2_5 := Lib.hid ((E2_4.out).new HB_5.out)
    have E3_5 := Lib.hid ((E3_4.out).new HB_5.out)
    have E4_5 := Lib.hid ((E4_4.out).new HB_5.out)
    refine hK.out _ _ (HS.out _ HX_5.out) (fun hHeld2 => ?_)
    clear hHeld
    have hHeld := hHeld2
    clear hHeld2 hK K hV hg HB_5 HX_4 RA_4 RB_4 RC_4 E1_4 E2_4 E3_4 E4_4
    try simp only [Act.put, List.getElem_toArray, List.getElem_cons_zero, List.getElem_cons_succ, List.setIfInBounds_toArray, List.set_cons_zero, List.set_cons_succ]
    refine wpAnyH_take (i := 13) (v := ?_) rfl (by kernel_rfl) (by kernel_rfl) (by kernel_rfl) (fun _ _ _ h => h) (Or.inl ⟨by kernel_rfl, ?_⟩) (by assumption) ?_
    rotate_left
    · intro w hSw
      (try dsimp only at hSw)
      go_simp
      all_goals (with_reducible rfl)
    try simp only [Act.put, List.getElem_toArray, List.getElem_cons_zero, List.getElem_cons_succ, List.setIfInBounds_toArray, List.set_cons_zero, List.set_cons_succ]
    refine wpAnyH_done (by kernel_rfl) ?_ _
    clear hHeld
    go_wp2_with fail
    go_meet
    exact ⟨gw, t1, t2, t3, t4, T1, T2, T3, T4, m1, m2, m3, m4, d1, d2, d3, d4, rfl, HP_w_5.out, E1_5.out, E2_5.out, E3_5.out, E4_5.out, HX_5.out⟩
  case rest =>
    obtain ⟨B, s1, s2, s3, s4, A1, A2, A3, A4, n1, n2, n3, n4, c1, c2, c3, c4, rfl, hbk, h1, h2, h3, h4, hbx⟩ := hcut
    have HQ := Lib.hid (quad_of (X + d) (X - d) (X * d) (C * C) (HGB.out.new hbx) (HEB.out.new hbx) hbk (PIo.new HR10_14.out hbx) (PIo.new HR11_14.out hbx) (PIo.new HR12_14.out hbx) (PIo.new HR13_14.out hbx) h1 h2 h3 h4 (B2.le (B2.add HNA.out (B2.le HD.out (by decide))) (by decide)) (B2.le (B2.sub HNA.out (B2.le HD.out (by decide))) (by decide)) (B2.le (B2.mul HNA.out HD.out) (by decide)) (B2.le (B2.mul HMD.out HMD.out) (by decide)))
    have HW := Lib.hid (bt HW_14.out hbx)
    clear hbk h1 h2 h3 h4 hbx HGB HEB HR1_14 HR2_14 HR3_14 HR10_14 HR11_14 HR12_14 HR13_14 HQ1_14 HQ2_14 HQ3_14 HQ10_14 HQ11_14 HQ12_14 HQ13_14 HS HXX HW_14
    go_wp2_with fail
    go_loopw [29] (fun v wr => ∃ i : Nat, i ≤ 4 ∧ v = .int .i64 (i : Int) ∧ Quad wr G E B ∧ Below w.heap.size w wr) (fun v _ => 4 - (intOf v).toNat)
    case atStart => exact ⟨0, by omega, rfl, HQ.out, HW.out⟩
    case round =>
      clear HQ HW
      obtain ⟨i, hi, rfl, hq, hb⟩ := hrel
      have HQ := Lib.hid hq
      have HB := Lib.hid hb
      clear hq hb
      by_cases hlt : i < 4
      · obtain ⟨v, s5, A5, n5, c5, s6, A6, n6, c6, e0, e1, h5, e2, e3, e4, h6, hv⟩ := HQ.out i hlt
        have h0i : (0 : Int) ≤ (i : Int) := by omega
        have hi4 : (i : Int) < 4 := by omega
        have hn5 : n5 ≤ 512 := plim0 h5 (outV_lim v)
        have hn6 : n6 ≤ 16390 := B2.rlen h6 hv
        have HR5 := Lib.hid h5
        have HR6 := Lib.hid h6
        have HE := Lib.hid (And.intro e0 (And.intro e1 (And.intro e2 (And.intro e3 e4))))
        clear h5 h6 hv
        go_wp2_with fail
        refine (fits_any v s6 A6 n6 c6 wr HR6.out (by omega)).mono ?_
        rintro e w6 ⟨rfl, hb6⟩
        have HB6 := Lib.hid hb6
        have HBB := Lib.hid (bt HB.out hb6)
        have HQ6 := Lib.hid (quad_new HQ.out hb6)
        have HR56 := Lib.hid (PIo.new HR5.out hb6)
        have HR66 := Lib.hid (HR6.out.new hb6)
        have HS : Hid (∀ w', Below w6.heap.size w6 w' → w'.cell? ⟨G, i * 2, none⟩ = some (.bool s5) ∧ w'.cell? ⟨G, i * 2 + 1, none⟩ = some (.slice A5 n5 c5) ∧ w'.cell? ⟨E, i, none⟩ = some (.int .i64 (outC v)) ∧ w'.cell? ⟨B, i * 2, none⟩ = some (.bool s6) ∧ w'.cell? ⟨B, i * 2 + 1, none⟩ = some (.slice A6 n6 c6) ∧ Below w6.heap.size w6 w') := Lib.hid (fun w' hb => ⟨keep2 HB6.out hb HE.out.1, keep2 HB6.out hb HE.out.2.1, keep2 HB6.out hb HE.out.2.2.1, keep2 HB6.out hb HE.out.2.2.2.1, keep2 HB6.out hb HE.out.2.2.2.2, hb⟩)
        have HXX := Lib.hid (Below.refl w6.heap.size w6)
        clear e0 e1 e2 e3 e4 hb6 HQ HB HR5 HR6
        rcases outVC v with ⟨ho, hv, hc⟩ | ⟨ho, hv, hc⟩
        · rw [decide_eq_true ho]
          rw [hv] at HR56
          rw [hc] at HS
          clear ho hv hc
          go_wp2_with fail
          obtain ⟨v0, hv0⟩ : ∃ z, World.drew w6 = z := ⟨_, rfl⟩
          have HD0 := Lib.hid (show Below w6.heap.size w6 v0 by rw [← hv0]; exact (Below.refl _ _).drew)
          have HX_0 := Lib.hid (bt HXX.out HD0.out)
          have P_0 := Lib.hid (PIo.new HR56.out HD0.out)
          have N_0 := Lib.hid ((HR66.out).new HD0.out)
          refine wp_region_held_drew (S := (fun w' : World => w'.cell? ⟨G, i * 2, none⟩ = some (.bool s5) ∧ w'.cell? ⟨G, i * 2 + 1, none⟩ = some (.slice A5 n5 c5) ∧ w'.cell? ⟨E, i, none⟩ = some (.int .i64 0) ∧ w'.cell? ⟨B, i * 2, none⟩ = some (.bool s6) ∧ w'.cell? ⟨B, i * 2 + 1, none⟩ = some (.slice A6 n6 c6) ∧ Below w6.heap.size w6 w')) (by kernel_rfl) ?_ (fun hHeld => ?_)
          · rw [hv0]
            exact HS.out _ HX_0.out
          rw [hv0] at hHeld ⊢
          clear hv0 HD0
          refine wpAnyH_take (i := 0) (v := ?_) rfl (by kernel_rfl) (by kernel_rfl) (by kernel_rfl) (fun _ _ _ h => h) (Or.inl ⟨by kernel_rfl, ?_⟩) (by assumption) ?_
          rotate_left
          · intro w hSw
            (try dsimp only at hSw)
            go_simp
            all_goals (with_reducible rfl)
          try simp only [Act.put, List.getElem_toArray, List.getElem_cons_zero, List.setIfInBounds_toArray, List.set_cons_zero, List.set_cons_succ]
          refine wpAnyH_take (i := 1) (v := ?_) rfl (by kernel_rfl) (by kernel_rfl) (by kernel_rfl) (fun _ _ _ h => h) (Or.inl ⟨by kernel_rfl, ?_⟩) (by assumption) ?_
          rotate_left
          · intro w hSw
            (try dsimp only at hSw)
            go_simp
            all_goals (with_reducible rfl)
          try simp only [Act.put, List.getElem_toArray, List.getElem_cons_zero, List.getElem_cons_succ, List.setIfInBounds_toArray, List.set_cons_zero, List.set_cons_succ]
          refine wpAnyH_take (i := 2) (v := ?_) rfl (by kernel_rfl) (by kernel_rfl) (by kernel_rfl) (fun _ _ _ h => h) (Or.inl ⟨by kernel_rfl, ?_⟩) (by assumption) ?_
          rotate_left
          · intro w hSw
            (try dsimp only at hSw)
            go_simp
            all_goals (with_reducible rfl)
          try simp only [Act.put, List.getElem_toArray, List.getElem_cons_zero, List.getElem_cons_succ, List.setIfInBounds_toArray, List.set_cons_zero, List.set_cons_succ]
          refine wpAnyH_take (i := 3) (v := ?_) rfl (by kernel_rfl) (by kernel_rfl) (by kernel_rfl) (fun _ _ _ h => h) (Or.inl ⟨by kernel_rfl, ?_⟩) (by assumption) ?_
          rotate_left
          · intro w hSw
            (try dsimp only at hSw)
            go_simp
            all_goals (with_reducible rfl)
          try simp only [Act.put, List.getElem_toArray, List.getElem_cons_zero, List.getElem_cons_succ, List.setIfInBounds_toArray, List.set_cons_zero, List.set_cons_succ]
          refine wpAnyH_take (i := 4) (v := ?_) rfl (by kernel_rfl) (by kernel_rfl) (by kernel_rfl) (fun _ _ _ h => h) (Or.inl ⟨by kernel_rfl, ?_⟩) (by assumption) ?_
          rotate_left
          · intro w hSw
            (try dsimp only at hSw)
            go_simp
            all_goals (with_reducible rfl)
          try simp only [Act.put, List.getElem_toArray, List.getElem_cons_zero, List.getElem_cons_succ, List.setIfInBounds_toArray, List.set_cons_zero, List.set_cons_succ]
          refine wpAnyH_take (i := 5) (v := ?_) rfl (by kernel_rfl) (by kernel_rfl) (by kernel_rfl) (fun _ _ _ h => h) (Or.inl ⟨by kernel_rfl, ?_⟩) (by assumption) ?_
          rotate_left
          · intro w hSw
            (try dsimp only at hSw)
            go_simp
            all_goals (with_reducible rfl)
          try simp only [Act.put, List.getElem_toArray, List.getElem_cons_zero, List.getElem_cons_succ, List.setIfInBounds_toArray, List.set_cons_zero, List.set_cons_succ]
          refine wpAnyH_take (i := 6) (v := ?_) rfl (by kernel_rfl) (by kernel_rfl) (by kernel_rfl) (fun _ _ _ h => h) (Or.inl ⟨by kernel_rfl, ?_⟩) (by assumption) ?_
          rotate_left
          · intro w hSw
            (try dsimp only at hSw)
            go_simp
            all_goals (with_reducible rfl)
          try simp only [Act.put, List.getElem_toArray, List.getElem_cons_zero, List.getElem_cons_succ, List.setIfInBounds_toArray, List.set_cons_zero, List.set_cons_succ]
          refine wpAnyH_take (i := 7) (v := ?_) rfl (by kernel_rfl) (by kernel_rfl) (by kernel_rfl) (fun _ _ _ h => h) (Or.inl ⟨by kernel_rfl, ?_⟩) (by assumption) ?_
          rotate_left
          · intro w hSw
            (try dsimp only at hSw)
            go_simp
            all_goals (with_reducible rfl)
          try simp only [Act.put, List.getElem_toArray, List.getElem_cons_zero, List.getElem_cons_succ, List.setIfInBounds_toArray, List.set_cons_zero, List.set_cons_succ]
          refine wpAnyH_take (i := 8) (v := ?_) rfl (by kernel_rfl) (by kernel_rfl) (by kernel_rfl) (fun _ _ _ h => h) (Or.inl ⟨by kernel_rfl, ?_⟩) (by assumption) ?_
          rotate_left
          · intro w hSw
            (try dsimp only at hSw)
            go_simp
            all_goals (with_reducible rfl)
          try simp only [Act.put, List.getElem_toArray, List.getElem_cons_zero, List.getElem_cons_succ, List.setIfInBounds_toArray, List.set_cons_zero, List.set_cons_succ]
          refine wpAnyH_take (i := 9) (v := ?_) rfl (by kernel_rfl) (by kernel_rfl) (by kernel_rfl) (fun _ _ _ h => h) (Or.inl ⟨by kernel_rfl, ?_⟩) (by assumption) ?_
          rotate_left
          · intro w hSw
            (try dsimp only at hSw)
            go_simp
            all_goals (with_reducible rfl)
          try simp only [Act.put, List.getElem_toArray, List.getElem_cons_zero, List.getElem_cons_succ, List.setIfInBounds_toArray, List.set_cons_zero, List.set_cons_succ]
          refine wpAnyH_take (i := 10) (v := ?_) rfl (by kernel_rfl) (by kernel_rfl) (by kernel_rfl) (fun _ _ _ h => h) (Or.inl ⟨by kernel_rfl, ?_⟩) (by assumption) ?_
          rotate_left
          · intro w hSw
            (try dsimp only at hSw)
            go_simp
            all_goals (with_reducible rfl)
          try simp only [Act.put, List.getElem_toArray, List.getElem_cons_zero, List.getElem_cons_succ, List.setIfInBounds_toArray, List.set_cons_zero, List.set_cons_succ]
          refine wpAnyH_take (i := 11) (v := undef) rfl (by kernel_rfl) (by kernel_rfl) (by kernel_rfl) (fun _ _ _ h => h) (Or.inr ⟨by kernel_rfl, rfl⟩) (by assumption) ?_
          try simp only [Act.put, List.getElem_toArray, List.getElem_cons_zero, List.getElem_cons_succ, List.setIfInBounds_toArray, List.set_cons_zero, List.set_cons_succ]
          refine wpAnyH_take (i := 12) (v := undef) rfl (by kernel_rfl) (by kernel_rfl) (by kernel_rfl) (fun _ _ _ h => h) (Or.inr ⟨by kernel_rfl, rfl⟩) (by assumption) ?_
          try simp only [Act.put, List.getElem_toArray, List.getElem_cons_zero, List.getElem_cons_succ, List.setIfInBounds_toArray, List.set_cons_zero, List.set_cons_succ]
          refine wpAnyH_take (i := 13) (v := undef) rfl (by kernel_rfl) (by kernel_rfl) (by kernel_rfl) (fun _ _ _ h => h) (Or.inr ⟨by kernel_rfl, rfl⟩) (by assumption) ?_
          try simp only [Act.put, List.getElem_toArray, List.getElem_cons_zero, List.getElem_cons_succ, List.setIfInBounds_toArray, List.set_cons_zero, List.set_cons_succ]
          refine wpAnyH_take (i := 14) (v := undef) rfl (by kernel_rfl) (by kernel_rfl) (by kernel_rfl) (fun _ _ _ h => h) (Or.inr ⟨by kernel_rfl, rfl⟩) (by assumption) ?_
          try simp only [Act.put, List.getElem_toArray, List.getElem_cons_zero, List.getElem_cons_succ, List.setIfInBounds_toArray, List.set_cons_zero, List.set_cons_succ]
          refine wpAnyH_take (i := 15) (v := undef) rfl (by kernel_rfl) (by kernel_rfl) (by kernel_rfl) (fun _ _ _ h => h) (Or.inr ⟨by kernel_rfl, rfl⟩) (by assumption) ?_
          try simp only [Act.put, List.getElem_toArray, List.getElem_cons_zero, List.getElem_cons_succ, List.setIfInBounds_toArray, List.set_cons_zero, List.set_cons_succ]
          refine wpAnyH_take (i := 16) (v := undef) rfl (by kernel_rfl) (by kernel_rfl) (by kernel_rfl) (fun _ _ _ h => h) (Or.inr ⟨by kernel_rfl, rfl⟩) (by assumption) ?_
          try simp only [Act.put, List.getElem_toArray, List.getElem_cons_zero, List.getElem_cons_succ, List.setIfInBounds_toArray, List.set_cons_zero, List.set_cons_succ]
          refine wpAnyH_take (i := 17) (v := undef) rfl (by kernel_rfl) (by kernel_rfl) (by kernel_rfl) (fun _ _ _ h => h) (Or.inr ⟨by kernel_rfl, rfl⟩) (by assumption) ?_
          try simp only [Act.put, List.getElem_toArray, List.getElem_cons_zero, List.getElem_cons_succ, List.setIfInBounds_toArray, List.set_cons_zero, List.set_cons_succ]
          refine wpAnyH_take (i := 18) (v := undef) rfl (by kernel_rfl) (by kernel_rfl) (by kernel_rfl) (fun _ _ _ h => h) (Or.inr ⟨by kernel_rfl, rfl⟩) (by assumption) ?_
          try simp only [Act.put, List.getElem_toArray, List.getElem_cons_zero, List.getElem_cons_succ, List.setIfInBounds_toArray, List.set_cons_zero, List.set_cons_succ]
          refine wpAnyH_take (i := 19) (v := undef) rfl (by kernel_rfl) (by kernel_rfl) (by kernel_rfl) (fun _ _ _ h => h) (Or.inr ⟨by kernel_rfl, rfl⟩) (by assumption) ?_
          try simp only [Act.put, List.getElem_toArray, List.getElem_cons_zero, List.getElem_cons_succ, List.setIfInBounds_toArray, List.set_cons_zero, List.set_cons_succ]
          refine wpAnyH_take (i := 20) (v := undef) rfl (by kernel_rfl) (by kernel_rfl) (by kernel_rfl) (fun _ _ _ h => h) (Or.inr ⟨by kernel_rfl, rfl⟩) (by assumption) ?_
          try simp only [Act.put, List.getElem_toArray, List.getElem_cons_zero, List.getElem_cons_succ, List.setIfInBounds_toArray, List.set_cons_zero, List.set_cons_succ]
          refine wpAnyH_take (i := 21) (v := undef) rfl (by kernel_rfl) (by kernel_rfl) (by kernel_rfl) (fun _ _ _ h => h) (Or.inr ⟨by kernel_rfl, rfl⟩) (by assumption) ?_
          try simp only [Act.put, List.getElem_toArray, List.getElem_cons_zero, List.getElem_cons_succ, List.setIfInBounds_toArray, List.set_cons_zero, List.set_cons_succ]
          refine wpAnyH_take (i := 22) (v := undef) rfl (by kernel_rfl) (by kernel_rfl) (by kernel_rfl) (fun _ _ _ h => h) (Or.inr ⟨by kernel_rfl, rfl⟩) (by assumption) ?_
          try simp only [Act.put, List.getElem_toArray, List.getElem_cons_zero, List.getElem_cons_succ, List.setIfInBounds_toArray, List.set_cons_zero, List.set_cons_succ]
          refine wpAnyH_take (i := 23) (v := undef) rfl (by kernel_rfl) (by kernel_rfl) (by kernel_rfl) (fun _ _ _ h => h) (Or.inr ⟨by kernel_rfl, rfl⟩) (by assumption) ?_
          try simp only [Act.put, List.getElem_toArray, List.getElem_cons_zero, List.getElem_cons_succ, List.setIfInBounds_toArray, List.set_cons_zero, List.set_cons_succ]
          refine wpAnyH_take (i := 24) (v := ?_) rfl (by kernel_rfl) (by kernel_rfl) (by kernel_rfl) (fun _ _ _ h => h) (Or.inl ⟨by kernel_rfl, ?_⟩) (by assumption) ?_
          rotate_left
          · intro w hSw
            (try dsimp only at hSw)
            go_simp
            all_goals (with_reducible rfl)
          try simp only [Act.put, List.getElem_toArray, List.getElem_cons_zero, List.getElem_cons_succ, List.setIfInBounds_toArray, List.set_cons_zero, List.set_cons_succ]
          refine wpAnyH_take (i := 25) (v := ?_) rfl (by kernel_rfl) (by kernel_rfl) (by kernel_rfl) (fun _ _ _ h => h) (Or.inl ⟨by kernel_rfl, ?_⟩) (by assumption) ?_
          rotate_left
          · intro w hSw
            (try dsimp only at hSw)
            go_simp
            all_goals (with_reducible rfl)
          try simp only [Act.put, List.getElem_toArray, List.getElem_cons_zero, List.getElem_cons_succ, List.setIfInBounds_toArray, List.set_cons_zero, List.set_cons_succ]
          refine wpAnyH_take (i := 26) (v := ?_) rfl (by kernel_rfl) (by kernel_rfl) (by kernel_rfl) (fun _ _ _ h => h) (Or.inl ⟨by kernel_rfl, ?_⟩) (by assumption) ?_
          rotate_left
          · intro w hSw
            (try dsimp only at hSw)
            go_simp
            all_goals (with_reducible rfl)
          try simp only [Act.put, List.getElem_toArray, List.getElem_cons_zero, List.getElem_cons_succ, List.setIfInBounds_toArray, List.set_cons_zero, List.set_cons_succ]
          refine wpAnyH_take (i := 27) (v := ?_) rfl (by kernel_rfl) (by kernel_rfl) (by kernel_rfl) (fun _ _ _ h => h) (Or.inl ⟨by kernel_rfl, ?_⟩) (by assumption) ?_
          rotate_left
          · intro w hSw
            (try dsimp only at hSw)
            go_simp
            all_goals (with_reducible rfl)
          try simp only [Act.put, List.getElem_toArray, List.getElem_cons_zero, List.getElem_cons_succ, List.setIfInBounds_toArray, List.set_cons_zero, List.set_cons_succ]
          refine wpAnyH_take (i := 28) (v := ?_) rfl (by kernel_rfl) (by kernel_rfl) (by kernel_rfl) (fun _ _ _ h => h) (Or.inl ⟨by kernel_rfl, ?_⟩) (by assumption) ?_
          rotate_left
          · intro w hSw
            (try dsimp only at hSw)
            go_simp
            all_goals (with_reducible rfl)
          try simp only [Act.put, List.getElem_toArray, List.getElem_cons_zero, List.getElem_cons_succ, List.setIfInBounds_toArray, List.set_cons_zero, List.set_cons_succ]
          refine wpAnyH_take (i := 29) (v := ?_) rfl (by kernel_rfl) (by kernel_rfl) (by kernel_rfl) (fun _ _ _ h => h) (Or.inl ⟨by kernel_rfl, ?_⟩) (by assumption) ?_
          rotate_left
          · intro w hSw
            (try dsimp only at hSw)
            go_simp
            all_goals (with_reducible rfl)
          try simp only [Act.put, List.getElem_toArray, List.getElem_cons_zero, List.getElem_cons_succ, List.setIfInBounds_toArray, List.set_cons_zero, List.set_cons_succ]
          refine wpAnyH_take (i := 30) (v := ?_) rfl (by kernel_rfl) (by kernel_rfl) (by kernel_rfl) (fun _ _ _ h => h) (Or.inl ⟨by kernel_rfl, ?_⟩) (by assumption) ?_
          rotate_left
          · intro w hSw
            (try dsimp only at hSw)
            go_simp
            all_goals (with_reducible rfl)
          try simp only [Act.put, List.getElem_toArray, List.getElem_cons_zero, List.getElem_cons_succ, List.setIfInBounds_toArray, List.set_cons_zero, List.set_cons_succ]
          refine wpAnyH_take (i := 31) (v := ?_) rfl (by kernel_rfl) (by kernel_rfl) (by kernel_rfl) (fun _ _ _ h => h) (Or.inl ⟨by kernel_rfl, ?_⟩) (by assumption) ?_
          rotate_left
          · intro w hSw
            (try dsimp only at hSw)
            go_simp
            all_goals (with_reducible rfl)
          try simp only [Act.put, List.getElem_toArray, List.getElem_cons_zero, List.getElem_cons_succ, List.setIfInBounds_toArray, List.set_cons_zero, List.set_cons_succ]
          refine wpAnyH_take (i := 32) (v := ?_) rfl (by kernel_rfl) (by kernel_rfl) (by kernel_rfl) (fun _ _ _ h => h) (Or.inl ⟨by kernel_rfl, ?_⟩) (by assumption) ?_
          rotate_left
          · intro w hSw
            (try dsimp only at hSw)
            go_simp
            all_goals (with_reducible rfl)
          try simp only [Act.put, List.getElem_toArray, List.getElem_cons_zero, List.getElem_cons_succ, List.setIfInBounds_toArray, List.set_cons_zero, List.set_cons_succ]
          refine wpAnyH_take (i := 33) (v := ?_) rfl (by kernel_rfl) (by kernel_rfl) (by kernel_rfl) (fun _ _ _ h => h) (Or.inl ⟨by kernel_rfl, ?_⟩) (by assumption) ?_
          rotate_left
          · intro w hSw
            (try dsimp only at hSw)
            go_simp
            all_goals (with_reducible rfl)
          try simp only [Act.put, List.getElem_toArray, List.getElem_cons_zero, List.getElem_cons_succ, List.setIfInBounds_toArray, List.set_cons_zero, List.set_cons_succ]
          refine wpAnyH_take (i := 34) (v := ?_) rfl (by kernel_rfl) (by kernel_rfl) (by kernel_rfl) (fun _ _ _ h => h) (Or.inl ⟨by kernel_rfl, ?_⟩) (by assumption) ?_
          rotate_left
          · intro w hSw
            (try dsimp only at hSw)
            go_simp
            all_goals (with_reducible rfl)
          try simp only [Act.put, List.getElem_toArray, List.getElem_cons_zero, List.getElem_cons_succ, List.setIfInBounds_toArray, List.set_cons_zero, List.set_cons_succ]
          refine wpAnyH_take (i := 35) (v := ?_) rfl (by kernel_rfl) (by kernel_rfl) (by kernel_rfl) (fun _ _ _ h => h) (Or.inl ⟨by kernel_rfl, ?_⟩) (by assumption) ?_
          rotate_left
          · intro w hSw
            (try dsimp only at hSw)
            go_simp
            all_goals (with_reducible rfl)
          try simp only [Act.put, List.getElem_toArray, List.getElem_cons_zero, List.getElem_cons_succ, List.setIfInBounds_toArray, List.set_cons_zero, List.set_cons_succ]
          refine wpAnyH_take (i := 36) (v := ?_) rfl (by kernel_rfl) (by kernel_rfl) (by kernel_rfl) (fun _ _ _ h => h) (Or.inl ⟨by kernel_rfl, ?_⟩) (by assumption) ?_
          rotate_left
          · intro w hSw
            (try dsimp only at hSw)
            go_simp
            all_goals (with_reducible rfl)
          try simp only [Act.put, List.getElem_toArray, List.getElem_cons_zero, List.getElem_cons_succ, List.setIfInBounds_toArray, List.set_cons_zero, List.set_cons_succ]
          refine wpAnyH_ready (rs := [37]) (by kernel_rfl) (by simp) ?_
          refine AllReadyH.cons rfl (fun K hK => ?_) AllReadyH.nil
          go_simp
          go_at_call 17
          refine (equal_any v v s5 s6 A5 A6 n5 c5 n6 c6 v0 (P_0.out) (N_0.out) (by omega) (by omega)).mono ?_
          rw [eqB_self]
          rintro e v1 ⟨rfl, hk⟩
          have HB_1 := Lib.hid hk
          go_wp2_with fail
          have HX_1 := Lib.hid (bt HX_0.out HB_1.out)
          have P_1 := Lib.hid (PIo.new P_0.out HB_1.out)
          have N_1 := Lib.hid ((N_0.out).new HB_1.out)
          refine hK.out _ _ (HS.out _ HX_1.out) (fun hHeld2 => ?_)
          clear hHeld
          have hHeld := hHeld2
          clear hHeld2 hK K hk HB_1 HX_0 P_0 N_0
          try simp only [Act.put, List.getElem_toArray, List.getElem_cons_zero, List.getElem_cons_succ, List.setIfInBounds_toArray, List.set_cons_zero, List.set_cons_succ]
          refine wpAnyH_take (i := 38) (v := ?_) rfl (by kernel_rfl) (by kernel_rfl) (by kernel_rfl) (fun _ _ _ h => h) (Or.inl ⟨by kernel_rfl, ?_⟩) (by assumption) ?_
          rotate_left
          · intro w hSw
            (try dsimp only at hSw)
            go_simp
            all_goals (with_reducible rfl)
          try simp only [Act.put, List.getElem_toArray, List.getElem_cons_zero, List.getElem_cons_succ, List.setIfInBounds_toArray, List.set_cons_zero, List.set_cons_succ]
          refine wpAnyH_take (i := 39) (v := ?_) rfl (by kernel_rfl) (by kernel_rfl) (by kernel_rfl) (fun _ _ _ h => h) (Or.inl ⟨by kernel_rfl, ?_⟩) (by assumption) ?_
          rotate_left
          · intro w hSw
            (try dsimp only at hSw)
            go_simp
            all_goals (with_reducible rfl)
          try simp only [Act.put, List.getElem_toArray, List.getElem_cons_zero, List.getElem_cons_succ, List.setIfInBounds_toArray, List.set_cons_zero, List.set_cons_succ]
          refine wpAnyH_take (i := 40) (v := ?_) rfl (by kernel_rfl) (by kernel_rfl) (by kernel_rfl) (fun _ _ _ h => h) (Or.inl ⟨by kernel_rfl, ?_⟩) (by assumption) ?_
          rotate_left
          · intro w hSw
            (try dsimp only at hSw)
            go_simp
            all_goals (with_reducible rfl)
          try simp only [Act.put, List.getElem_toArray, List.getElem_cons_zero, List.getElem_cons_succ, List.setIfInBounds_toArray, List.set_cons_zero, List.set_cons_succ]
          refine wpAnyH_done (by kernel_rfl) ?_ _
          clear hHeld
          have HL := Lib.hid HX_1.out
          go_wp2
          go_roundw
          case rel => exact ⟨i + 1, by omega, by go_num, quad_new HQ6.out HL.out, bt HBB.out HL.out⟩
          case measure => simp [intOf]; omega
        · rw [decide_eq_false ho]
          rw [hv] at HR56
          rw [hc] at HS
          clear ho hv hc
          go_wp2_with fail
          obtain ⟨v0, hv0⟩ : ∃ z, World.drew w6 = z := ⟨_, rfl⟩
          have HD0 := Lib.hid (show Below w6.heap.size w6 v0 by rw [← hv0]; exact (Below.refl _ _).drew)
          have HX_0 := Lib.hid (bt HXX.out HD0.out)
          have P_0 := Lib.hid (PIo.new HR56.out HD0.out)
          have N_0 := Lib.hid ((HR66.out).new HD0.out)
          refine wp_region_held_drew (S := (fun w' : World => w'.cell? ⟨G, i * 2, none⟩ = some (.bool s5) ∧ w'.cell? ⟨G, i * 2 + 1, none⟩ = some (.slice A5 n5 c5) ∧ w'.cell? ⟨E, i, none⟩ = some (.int .i64 4) ∧ w'.cell? ⟨B, i * 2, none⟩ = some (.bool s6) ∧ w'.cell? ⟨B, i * 2 + 1, none⟩ = some (.slice A6 n6 c6) ∧ Below w6.heap.size w6 w')) (by kernel_rfl) ?_ (fun hHeld => ?_)
          · rw [hv0]
            exact HS.out _ HX_0.out
          rw [hv0] at hHeld ⊢
          clear hv0 HD0
          refine wpAnyH_take (i := 0) (v := ?_) rfl (by kernel_rfl) (by kernel_rfl) (by kernel_rfl) (fun _ _ _ h => h) (Or.inl ⟨by kernel_rfl, ?_⟩) (by assumption) ?_
          rotate_left
          · intro w hSw
            (try dsimp only at hSw)
            go_simp
            all_goals (with_reducible rfl)
          try simp only [Act.put, List.getElem_toArray, List.getElem_cons_zero, List.setIfInBounds_toArray, List.set_cons_zero, List.set_cons_succ]
          refine wpAnyH_take (i := 1) (v := ?_) rfl (by kernel_rfl) (by kernel_rfl) (by kernel_rfl) (fun _ _ _ h => h) (Or.inl ⟨by kernel_rfl, ?_⟩) (by assumption) ?_
          rotate_left
          · intro w hSw
            (try dsimp only at hSw)
            go_simp
            all_goals (with_reducible rfl)
          try simp only [Act.put, List.getElem_toArray, List.getElem_cons_zero, List.getElem_cons_succ, List.setIfInBounds_toArray, List.set_cons_zero, List.set_cons_succ]
          refine wpAnyH_take (i := 2) (v := ?_) rfl (by kernel_rfl) (by kernel_rfl) (by kernel_rfl) (fun _ _ _ h => h) (Or.inl ⟨by kernel_rfl, ?_⟩) (by assumption) ?_
          rotate_left
          · intro w hSw
            (try dsimp only at hSw)
            go_simp
            all_goals (with_reducible rfl)
          try simp only [Act.put, List.getElem_toArray, List.getElem_cons_zero, List.getElem_cons_succ, List.setIfInBounds_toArray, List.set_cons_zero, List.set_cons_succ]
          refine wpAnyH_take (i := 3) (v := ?_) rfl (by kernel_rfl) (by kernel_rfl) (by kernel_rfl) (fun _ _ _ h => h) (Or.inl ⟨by kernel_rfl, ?_⟩) (by assumption) ?_
          rotate_left
          · intro w hSw
            (try dsimp only at hSw)
            go_simp
            all_goals (with_reducible rfl)
          try simp only [Act.put, List.getElem_toArray, List.getElem_cons_zero, List.getElem_cons_succ, List.setIfInBounds_toArray, List.set_cons_zero, List.set_cons_succ]
          refine wpAnyH_take (i := 4) (v := ?_) rfl (by kernel_rfl) (by kernel_rfl) (by kernel_rfl) (fun _ _ _ h => h) (Or.inl ⟨by kernel_rfl, ?_⟩) (by assumption) ?_
          rotate_left
          · intro w hSw
            (try dsimp only at hSw)
            go_simp
            all_goals (with_reducible rfl)
          try simp only [Act.put, List.getElem_toArray, List.getElem_cons_zero, List.getElem_cons_succ, List.setIfInBounds_toArray, List.set_cons_zero, List.set_cons_succ]
          refine wpAnyH_take (i := 5) (v := ?_) rfl (by kernel_rfl) (by kernel_rfl) (by kernel_rfl) (fun _ _ _ h => h) (Or.inl ⟨by kernel_rfl, ?_⟩) (by assumption) ?_
          rotate_left
          · intro w hSw
            (try dsimp only at hSw)
            go_simp
            all_goals (with_reducible rfl)
          try simp only [Act.put, List.getElem_toArray, List.getElem_cons_zero, List.getElem_cons_succ, List.setIfInBounds_toArray, List.set_cons_zero, List.set_cons_succ]
          refine wpAnyH_take (i := 6) (v := ?_) rfl (by kernel_rfl) (by kernel_rfl) (by kernel_rfl) (fun _ _ _ h => h) (Or.inl ⟨by kernel_rfl, ?_⟩) (by assumption) ?_
          rotate_left
          · intro w hSw
            (try dsimp only at hSw)
            go_simp
            all_goals (with_reducible rfl)
          try simp only [Act.put, List.getElem_toArray, List.getElem_cons_zero, List.getElem_cons_succ, List.setIfInBounds_toArray, List.set_cons_zero, List.set_cons_succ]
          refine wpAnyH_take (i := 7) (v := ?_) rfl (by kernel_rfl) (by kernel_rfl) (by kernel_rfl) (fun _ _ _ h => h) (Or.inl ⟨by kernel_rfl, ?_⟩) (by assumption) ?_
          rotate_left
          · intro w hSw
            (try dsimp only at hSw)
            go_simp
            all_goals (with_reducible rfl)
          try simp only [Act.put, List.getElem_toArray, List.getElem_cons_zero, List.getElem_cons_succ, List.setIfInBounds_toArray, List.set_cons_zero, List.set_cons_succ]
          refine wpAnyH_take (i := 8) (v := ?_) rfl (by kernel_rfl) (by kernel_rfl) (by kernel_rfl) (fun _ _ _ h => h) (Or.inl ⟨by kernel_rfl, ?_⟩) (by assumption) ?_
          rotate_left
          · intro w hSw
            (try dsimp only at hSw)
            go_simp
            all_goals (with_reducible rfl)
          try simp only [Act.put, List.getElem_toArray, List.getElem_cons_zero, List.getElem_cons_succ, List.setIfInBounds_toArray, List.set_cons_zero, List.set_cons_succ]
          refine wpAnyH_take (i := 9) (v := ?_) rfl (by kernel_rfl) (by kernel_rfl) (by kernel_rfl) (fun _ _ _ h => h) (Or.inl ⟨by kernel_rfl, ?_⟩) (by assumption) ?_
          rotate_left
          · intro w hSw
            (try dsimp only at hSw)
            go_simp
            all_goals (with_reducible rfl)
          try simp only [Act.put, List.getElem_toArray, List.getElem_cons_zero, List.getElem_cons_succ, List.setIfInBounds_toArray, List.set_cons_zero, List.set_cons_succ]
          refine wpAnyH_take (i := 10) (v := ?_) rfl (by kernel_rfl) (by kernel_rfl) (by kernel_rfl) (fun _ _ _ h => h) (Or.inl ⟨by kernel_rfl, ?_⟩) (by assumption) ?_
          rotate_left
          · intro w hSw
            (try dsimp only at hSw)
            go_simp
            all_goals (with_reducible rfl)
          try simp only [Act.put, List.getElem_toArray, List.getElem_cons_zero, List.getElem_cons_succ, List.setIfInBounds_toArray, List.set_cons_zero, List.set_cons_succ]
          refine wpAnyH_take (i := 11) (v := ?_) rfl (by kernel_rfl) (by kernel_rfl) (by kernel_rfl) (fun _ _ _ h => h) (Or.inl ⟨by kernel_rfl, ?_⟩) (by assumption) ?_
          rotate_left
          · intro w hSw
            (try dsimp only at hSw)
            go_simp
            all_goals (with_reducible rfl)
          try simp only [Act.put, List.getElem_toArray, List.getElem_cons_zero, List.getElem_cons_succ, List.setIfInBounds_toArray, List.set_cons_zero, List.set_cons_succ]
          refine wpAnyH_take (i := 12) (v := ?_) rfl (by kernel_rfl) (by kernel_rfl) (by kernel_rfl) (fun _ _ _ h => h) (Or.inl ⟨by kernel_rfl, ?_⟩) (by assumption) ?_
          rotate_left
          · intro w hSw
            (try dsimp only at hSw)
            go_simp
            all_goals (with_reducible rfl)
          try simp only [Act.put, List.getElem_toArray, List.getElem_cons_zero, List.getElem_cons_succ, List.setIfInBounds_toArray, List.set_cons_zero, List.set_cons_succ]
          refine wpAnyH_take (i := 13) (v := ?_) rfl (by kernel_rfl) (by kernel_rfl) (by kernel_rfl) (fun _ _ _ h => h) (Or.inl ⟨by kernel_rfl, ?_⟩) (by assumption) ?_
          rotate_left
          · intro w hSw
            (try dsimp only at hSw)
            go_simp
            all_goals (with_reducible rfl)
          try simp only [Act.put, List.getElem_toArray, List.getElem_cons_zero, List.getElem_cons_succ, List.setIfInBounds_toArray, List.set_cons_zero, List.set_cons_succ]
          refine wpAnyH_take (i := 14) (v := ?_) rfl (by kernel_rfl) (by kernel_rfl) (by kernel_rfl) (fun _ _ _ h => h) (Or.inl ⟨by kernel_rfl, ?_⟩) (by assumption) ?_
          rotate_left
          · intro w hSw
            (try dsimp only at hSw)
            go_simp
            all_goals (with_reducible rfl)
          try simp only [Act.put, List.getElem_toArray, List.getElem_cons_zero, List.getElem_cons_succ, List.setIfInBounds_toArray, List.set_cons_zero, List.set_cons_succ]
          refine wpAnyH_take (i := 15) (v := ?_) rfl (by kernel_rfl) (by kernel_rfl) (by kernel_rfl) (fun _ _ _ h => h) (Or.inl ⟨by kernel_rfl, ?_⟩) (by assumption) ?_
          rotate_left
          · intro w hSw
            (try dsimp only at hSw)
            go_simp
            all_goals (with_reducible rfl)
          try simp only [Act.put, List.getElem_toArray, List.getElem_cons_zero, List.getElem_cons_succ, List.setIfInBounds_toArray, List.set_cons_zero, List.set_cons_succ]
          refine wpAnyH_take (i := 16) (v := ?_) rfl (by kernel_rfl) (by kernel_rfl) (by kernel_rfl) (fun _ _ _ h => h) (Or.inl ⟨by kernel_rfl, ?_⟩) (by assumption) ?_
          rotate_left
          · intro w hSw
            (try dsimp only at hSw)
            go_simp
            all_goals (with_reducible rfl)
          try simp only [Act.put, List.getElem_toArray, List.getElem_cons_zero, List.getElem_cons_succ, List.setIfInBounds_toArray, List.set_cons_zero, List.set_cons_succ]
          refine wpAnyH_take (i := 17) (v := ?_) rfl (by kernel_rfl) (by kernel_rfl) (by kernel_rfl) (fun _ _ _ h => h) (Or.inl ⟨by kernel_rfl, ?_⟩) (by assumption) ?_
          rotate_left
          · intro w hSw
            (try dsimp only at hSw)
            go_simp
            all_goals (with_reducible rfl)
          try simp only [Act.put, List.getElem_toArray, List.getElem_cons_zero, List.getElem_cons_succ, List.setIfInBounds_toArray, List.set_cons_zero, List.set_cons_succ]
          refine wpAnyH_take (i := 18) (v := ?_) rfl (by kernel_rfl) (by kernel_rfl) (by kernel_rfl) (fun _ _ _ h => h) (Or.inl ⟨by kernel_rfl, ?_⟩) (by assumption) ?_
          rotate_left
          · intro w hSw
            (try dsimp only at hSw)
            go_simp
            all_goals (with_reducible rfl)
          try simp only [Act.put, List.getElem_toArray, List.getElem_cons_zero, List.getElem_cons_succ, List.setIfInBounds_toArray, List.set_cons_zero, List.set_cons_succ]
          refine wpAnyH_take (i := 19) (v := ?_) rfl (by kernel_rfl) (by kernel_rfl) (by kernel_rfl) (fun _ _ _ h => h) (Or.inl ⟨by kernel_rfl, ?_⟩) (by assumption) ?_
          rotate_left
          · intro w hSw
            (try dsimp only at hSw)
            go_simp
            all_goals (with_reducible rfl)
          try simp only [Act.put, List.getElem_toArray, List.getElem_cons_zero, List.getElem_cons_succ, List.setIfInBounds_toArray, List.set_cons_zero, List.set_cons_succ]
          refine wpAnyH_take (i := 20) (v := ?_) rfl (by kernel_rfl) (by kernel_rfl) (by kernel_rfl) (fun _ _ _ h => h) (Or.inl ⟨by kernel_rfl, ?_⟩) (by assumption) ?_
          rotate_left
          · intro w hSw
            (try dsimp only at hSw)
            go_simp
            all_goals (with_reducible rfl)
          try simp only [Act.put, List.getElem_toArray, List.getElem_cons_zero, List.getElem_cons_succ, List.setIfInBounds_toArray, List.set_cons_zero, List.set_cons_succ]
          refine wpAnyH_ready (rs := [21]) (by kernel_rfl) (by simp) ?_
          refine AllReadyH.cons rfl (fun K hK => ?_) AllReadyH.nil
          go_simp
          go_at_call 31
          refine (sign_any 0 s5 A5 n5 c5 v0 (P_0.out) (by omega)).mono ?_
          rw [cmpI_same (a := 0) (b := 0) rfl]
          rintro e v1 ⟨rfl, hk⟩
          have HB_1 := Lib.hid hk
          go_wp2_with fail
          have HX_1 := Lib.hid (bt HX_0.out HB_1.out)
          have P_1 := Lib.hid (PIo.new P_0.out HB_1.out)
          have N_1 := Lib.hid ((N_0.out).new HB_1.out)
          refine hK.out _ _ (HS.out _ HX_1.out) (fun hHeld2 => ?_)
          clear hHeld
          have hHeld := hHeld2
          clear hHeld2 hK K hk HB_1 HX_0 P_0 N_0
          try simp only [Act.put, List.getElem_toArray, List.getElem_cons_zero, List.getElem_cons_succ, List.setIfInBounds_toArray, List.set_cons_zero, List.set_cons_succ]
          refine wpAnyH_take (i := 22) (v := ?_) rfl (by kernel_rfl) (by kernel_rfl) (by kernel_rfl) (fun _ _ _ h => h) (Or.inl ⟨by kernel_rfl, ?_⟩) (by assumption) ?_
          rotate_left
          · intro w hSw
            (try dsimp only at hSw)
            go_simp
            all_goals (with_reducible rfl)
          try simp only [Act.put, List.getElem_toArray, List.getElem_cons_zero, List.getElem_cons_succ, List.setIfInBounds_toArray, List.set_cons_zero, List.set_cons_succ]
          refine wpAnyH_take (i := 23) (v := ?_) rfl (by kernel_rfl) (by kernel_rfl) (by kernel_rfl) (fun _ _ _ h => h) (Or.inl ⟨by kernel_rfl, ?_⟩) (by assumption) ?_
          rotate_left
          · intro w hSw
            (try dsimp only at hSw)
            go_simp
            all_goals (with_reducible rfl)
          try simp only [Act.put, List.getElem_toArray, List.getElem_cons_zero, List.getElem_cons_succ, List.setIfInBounds_toArray, List.set_cons_zero, List.set_cons_succ]
          refine wpAnyH_take (i := 24) (v := ?_) rfl (by kernel_rfl) (by kernel_rfl) (by kernel_rfl) (fun _ _ _ h => h) (Or.inl ⟨by kernel_rfl, ?_⟩) (by assumption) ?_
          rotate_left
          · intro w hSw
            (try dsimp only at hSw)
            go_simp
            all_goals (with_reducible rfl)
          try simp only [Act.put, List.getElem_toArray, List.getElem_cons_zero, List.getElem_cons_succ, List.setIfInBounds_toArray, List.set_cons_zero, List.set_cons_succ]
          refine wpAnyH_take (i := 25) (v := ?_) rfl (by kernel_rfl) (by kernel_rfl) (by kernel_rfl) (fun _ _ _ h => h) (Or.inl ⟨by kernel_rfl, ?_⟩) (by assumption) ?_
          rotate_left
          · intro w hSw
            (try dsimp only at hSw)
            go_simp
            all_goals (with_reducible rfl)
          try simp only [Act.put, List.getElem_toArray, List.getElem_cons_zero, List.getElem_cons_succ, List.setIfInBounds_toArray, List.set_cons_zero, List.set_cons_succ]
          refine wpAnyH_take (i := 26) (v := ?_) rfl (by kernel_rfl) (by kernel_rfl) (by kernel_rfl) (fun _ _ _ h => h) (Or.inl ⟨by kernel_rfl, ?_⟩) (by assumption) ?_
          rotate_left
          · intro w hSw
            (try dsimp only at hSw)
            go_simp
            all_goals (with_reducible rfl)
          try simp only [Act.put, List.getElem_toArray, List.getElem_cons_zero, List.getElem_cons_succ, List.setIfInBounds_toArray, List.set_cons_zero, List.set_cons_succ]
          refine wpAnyH_take (i := 27) (v := ?_) rfl (by kernel_rfl) (by kernel_rfl) (by kernel_rfl) (fun _ _ _ h => h) (Or.inl ⟨by kernel_rfl, ?_⟩) (by assumption) ?_
          rotate_left
          · intro w hSw
            (try dsimp only at hSw)
            go_simp
            all_goals (with_reducible rfl)
          try simp only [Act.put, List.getElem_toArray, List.getElem_cons_zero, List.getElem_cons_succ, List.setIfInBounds_toArray, List.set_cons_zero, List.set_cons_succ]
          refine wpAnyH_take (i := 28) (v := ?_) rfl (by kernel_rfl) (by kernel_rfl) (by kernel_rfl) (fun _ _ _ h => h) (Or.inl ⟨by kernel_rfl, ?_⟩) (by assumption) ?_
          rotate_left
          · intro w hSw
            (try dsimp only at hSw)
            go_simp
            all_goals (with_reducible rfl)
          try simp only [Act.put, List.getElem_toArray, List.getElem_cons_zero, List.getElem_cons_succ, List.setIfInBounds_toArray, List.set_cons_zero, List.set_cons_succ]
          refine wpAnyH_take (i := 29) (v := undef) rfl (by kernel_rfl) (by kernel_rfl) (by kernel_rfl) (fun _ _ _ h => h) (Or.inr ⟨by kernel_rfl, rfl⟩) (by assumption) ?_
          try simp only [Act.put, List.getElem_toArray, List.getElem_cons_zero, List.getElem_cons_succ, List.setIfInBounds_toArray, List.set_cons_zero, List.set_cons_succ]
          refine wpAnyH_take (i := 30) (v := undef) rfl (by kernel_rfl) (by kernel_rfl) (by kernel_rfl) (fun _ _ _ h => h) (Or.inr ⟨by kernel_rfl, rfl⟩) (by assumption) ?_
          try simp only [Act.put, List.getElem_toArray, List.getElem_cons_zero, List.getElem_cons_succ, List.setIfInBounds_toArray, List.set_cons_zero, List.set_cons_succ]
          refine wpAnyH_take (i := 31) (v := undef) rfl (by kernel_rfl) (by kernel_rfl) (by kernel_rfl) (fun _ _ _ h => h) (Or.inr ⟨by kernel_rfl, rfl⟩) (by assumption) ?_
          try simp only [Act.put, List.getElem_toArray, List.getElem_cons_zero, List.getElem_cons_succ, List.setIfInBounds_toArray, List.set_cons_zero, List.set_cons_succ]
          refine wpAnyH_take (i := 32) (v := undef) rfl (by kernel_rfl) (by kernel_rfl) (by kernel_rfl) (fun _ _ _ h => h) (Or.inr ⟨by kernel_rfl, rfl⟩) (by assumption) ?_
          try simp only [Act.put, List.getElem_toArray, List.getElem_cons_zero, List.getElem_cons_succ, List.setIfInBounds_toArray, List.set_cons_zero, List.set_cons_succ]
          refine wpAnyH_take (i := 33) (v := undef) rfl (by kernel_rfl) (by kernel_rfl) (by kernel_rfl) (fun _ _ _ h => h) (Or.inr ⟨by kernel_rfl, rfl⟩) (by assumption) ?_
          try simp only [Act.put, List.getElem_toArray, List.getElem_cons_zero, List.getElem_cons_succ, List.setIfInBounds_toArray, List.set_cons_zero, List.set_cons_succ]
          refine wpAnyH_take (i := 34) (v := undef) rfl (by kernel_rfl) (by kernel_rfl) (by kernel_rfl) (fun _ _ _ h => h) (Or.inr ⟨by kernel_rfl, rfl⟩) (by assumption) ?_
          try simp only [Act.put, List.getElem_toArray, List.getElem_cons_zero, List.getElem_cons_succ, List.setIfInBounds_toArray, List.set_cons_zero, List.set_cons_succ]
          refine wpAnyH_take (i := 35) (v := undef) rfl (by kernel_rfl) (by kernel_rfl) (by kernel_rfl) (fun _ _ _ h => h) (Or.inr ⟨by kernel_rfl, rfl⟩) (by assumption) ?_
          try simp only [Act.put, List.getElem_toArray, List.getElem_cons_zero, List.getElem_cons_succ, List.setIfInBounds_toArray, List.set_cons_zero, List.set_cons_succ]
          refine wpAnyH_take (i := 36) (v := undef) rfl (by kernel_rfl) (by kernel_rfl) (by kernel_rfl) (fun _ _ _ h => h) (Or.inr ⟨by kernel_rfl, rfl⟩) (by assumption) ?_
          try simp only [Act.put, List.getElem_toArray, List.getElem_cons_zero, List.getElem_cons_succ, List.setIfInBounds_toArray, List.set_cons_zero, List.set_cons_succ]
          refine wpAnyH_take (i := 37) (v := undef) rfl (by kernel_rfl) (by kernel_rfl) (by kernel_rfl) (fun _ _ _ h => h) (Or.inr ⟨by kernel_rfl, rfl⟩) (by assumption) ?_
          try simp only [Act.put, List.getElem_toArray, List.getElem_cons_zero, List.getElem_cons_succ, List.setIfInBounds_toArray, List.set_cons_zero, List.set_cons_succ]
          refine wpAnyH_take (i := 38) (v := undef) rfl (by kernel_rfl) (by kernel_rfl) (by kernel_rfl) (fun _ _ _ h => h) (Or.inr ⟨by kernel_rfl, rfl⟩) (by assumption) ?_
          try simp only [Act.put, List.getElem_toArray, List.getElem_cons_zero, List.getElem_cons_succ, List.setIfInBounds_toArray, List.set_cons_zero, List.set_cons_succ]
          refine wpAnyH_take (i := 39) (v := ?_) rfl (by kernel_rfl) (by kernel_rfl) (by kernel_rfl) (fun _ _ _ h => h) (Or.inl ⟨by kernel_rfl, ?_⟩) (by assumption) ?_
          rotate_left
          · intro w hSw
            (try dsimp only at hSw)
            go_simp
            all_goals (with_reducible rfl)
          try simp only [Act.put, List.getElem_toArray, List.getElem_cons_zero, List.getElem_cons_succ, List.setIfInBounds_toArray, List.set_cons_zero, List.set_cons_succ]
          refine wpAnyH_take (i := 40) (v := ?_) rfl (by kernel_rfl) (by kernel_rfl) (by kernel_rfl) (fun _ _ _ h => h) (Or.inl ⟨by kernel_rfl, ?_⟩) (by assumption) ?_
          rotate_left
          · intro w hSw
            (try dsimp only at hSw)
            go_simp
            all_goals (with_reducible rfl)
          try simp only [Act.put, List.getElem_toArray, List.getElem_cons_zero, List.getElem_cons_succ, List.setIfInBounds_toArray, List.set_cons_zero, List.set_cons_succ]
          refine wpAnyH_done (by kernel_rfl) ?_ _
          clear hHeld
          have HL := Lib.hid HX_1.out
          go_wp2
          go_roundw
          case rel => exact ⟨i + 1, by omega, by go_num, quad_new HQ6.out HL.out, bt HBB.out HL.out⟩
          case measure => simp [intOf]; omega
      · obtain rfl : i = 4 := by omega
        go_wp2_with fail
        refine (lives_any wr).mono ?_
        rintro e w5 ⟨rfl, hb5⟩
        have HB5 := Lib.hid (bt HB.out hb5)
        clear hb5
        go_wp2
        go_ret
        exact ⟨rfl, HB5.out⟩

end Go.Proofs.Ytlhccfmbfdaboaa
