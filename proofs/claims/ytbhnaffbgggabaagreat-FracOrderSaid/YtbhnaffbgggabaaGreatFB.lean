/- Contracts of the program's fractions: lowest, divided, product, firstError. Conditions: as each statement has them. -/
import Derived.Test.YtbhnaffbgggabaaGreatFA
namespace Go.Proofs.YtbhnaffbgggabaaGreat
open Go.RowKit
attribute [local go_sem ↓] Go.wp_at_zero Go.wp_at_succ
theorem plim {w : World} {s : Bool} {A : Option Addr} {n c : Nat} {x : Int} (h : PI w s A n c x) (hx : x.natAbs < lim) : n ≤ 512 := by
 have := (fits_iff x.natAbs).2 hx
 rw [h.2.1] at this
 exact this
/-- Two boxes of two cells, and one of four. -/
def W224 (t u : TypeId) (w : World) (a0 a1 b0 b1 z0 z1 z2 z3 : Value) : World := ((w.alloc (.cells #[a0, a1] t)).alloc (.cells #[b0, b1] t)).alloc (.cells #[z0, z1, z2, z3] u)
section
variable (t u : TypeId) (w : World) (a0 a1 b0 b1 z0 z1 z2 z3 : Value)
theorem W224_a : P2 t (W224 t u w a0 a1 b0 b1 z0 z1 z2 z3) w.heap.size a0 a1 := ((P2.lit w t a0 a1).alloc _).alloc _
theorem W224_b : P2 t (W224 t u w a0 a1 b0 b1 z0 z1 z2 z3) (w.heap.size + 1) b0 b1 := by
 have := P2.lit (w.alloc (.cells #[a0, a1] t)) t b0 b1
 rw [World.size_alloc] at this
 exact this.alloc _
theorem W224_z : P4 u (W224 t u w a0 a1 b0 b1 z0 z1 z2 z3) (w.heap.size + 1 + 1) z0 z1 z2 z3 := by
 have := P4.lit ((w.alloc (.cells #[a0, a1] t)).alloc (.cells #[b0, b1] t)) u z0 z1 z2 z3
 rw [World.size_alloc, World.size_alloc] at this
 exact this
theorem W224_k : Below w.heap.size w (W224 t u w a0 a1 b0 b1 z0 z1 z2 z3) := (((Below.refl _ w).alloc (Nat.le_refl _) _).alloc (by simp) _).alloc (by simp; omega) _
end
set_option maxRecDepth 100000 in
set_option maxHeartbeats 1600000 in
theorem flowest_any (p q : Int) (s s' : Bool) (A A' : Option Addr) (n c n' c' : Nat) (w : World) (hx : PI w s A n c p) (hy : PI w s' A' n' c' q) (hn' : n' ≤ 900000) :
  Calls Tryz.prog 101 #[.agg #[.bool s, .slice A n c], .agg #[.bool s', .slice A' n' c']] w (RetF p q w) := by
 obtain ⟨W, hW⟩ : ∃ W, ((w.alloc (.cells #[.bool s, .slice A n c] 33)).alloc (.cells #[.bool s', .slice A' n' c'] 33)).alloc (.cells #[.bool false, .slice none 0 0, .bool false, .slice none 0 0] 35) = W := ⟨_, rfl⟩
 have HK := hJ (show Below w.heap.size w W by rw [← hW]; exact W224_k _ _ _ _ _ _ _ _ _ _ _)
 have HA := hJ (show P2 33 W w.heap.size (.bool s) (.slice A n c) by rw [← hW]; exact W224_a _ _ _ _ _ _ _ _ _ _ _)
 have HB := hJ (show P2 33 W (w.heap.size + 1) (.bool s') (.slice A' n' c') by rw [← hW]; exact W224_b _ _ _ _ _ _ _ _ _ _ _)
 have HZ := hJ (show P4 35 W (w.heap.size + 1 + 1) (.bool false) (.slice none 0 0) (.bool false) (.slice none 0 0) by rw [← hW]; exact W224_z _ _ _ _ _ _ _ _ _ _ _)
 have HX := hJ (PIo.new hx HK.out)
 have HY := hJ (PIo.new hy HK.out)
 clear hx hy
 obtain ⟨b0, b1⟩ := HB.out.cells
 go_enter Tryz.func101, Tryz.ntmps101
 go_wp2_with fail
 refine (isone_any q s' A' n' c' W HY.out hn').mono ?_
 rintro e w1 ⟨rfl, hb1⟩
 have HB1 := hJ (bt HK.out hb1)
 have HA1 := hJ (HA.out.new hb1)
 have HBB := hJ (HB.out.new hb1)
 have HZ1 := hJ (HZ.out.new hb1)
 have HX1 := hJ (PIo.new HX.out hb1)
 have HY1 := hJ (PIo.new HY.out hb1)
 clear hb1 b0 b1 hW
 obtain ⟨a0, a1⟩ := HA1.out.cells
 obtain ⟨b0, b1⟩ := HBB.out.cells
 obtain ⟨z0, z1, z2, z3⟩ := HZ1.out.cells
 have f0 := HZ1.out.frozen 0
 have f1 := HZ1.out.frozen 1
 have f2 := HZ1.out.frozen 2
 have f3 := HZ1.out.frozen 3
 by_cases h1 : q = 1
 ·have HF := hJ (show PF w1 s A n c false none 0 0 p q from ⟨HX1.out, by rw [h1]; exact PI.zero w1⟩)
  rw [h1, one_true]
  clear h1
  go_wp2
  exact bodyPost_ret (results_cell_row rfl _ _ _ _ _ _ _ rfl (HZ1.out.all (.bool s) (.slice A n c) (.bool false) (.slice none 0 0)) Tryz.underlying35 rfl F_size) rfl (RetF.stored HF.out HZ1.out HB1.out (by omega) _ _ _ _)
 ·have HF := hJ (show PF w1 s A n c s' A' n' c' p q from ⟨HX1.out, by rw [dn_ne h1]; exact HY1.out⟩)
  rw [one_false h1]
  clear h1
  go_wp2
  exact bodyPost_ret (results_cell_row rfl _ _ _ _ _ _ _ rfl (HZ1.out.all (.bool s) (.slice A n c) (.bool s') (.slice A' n' c')) Tryz.underlying35 rfl F_size) rfl (RetF.stored HF.out HZ1.out HB1.out (by omega) _ _ _ _)
set_option maxRecDepth 100000 in
set_option maxHeartbeats 1600000 in
theorem fdivided_any (x y : Int) (s s' : Bool) (A A' : Option Addr) (n c n' c' : Nat) (w : World) (hx : PI w s A n c x) (hy : PI w s' A' n' c' y) (hn : n ≤ 100000) (hn' : n' ≤ 100000) (hy0 : y ≠ 0) :
  Calls Tryz.prog 102 #[.agg #[.bool s, .slice A n c], .agg #[.bool s', .slice A' n' c']] w (RetP (x / y) w) := by
 obtain ⟨W, hW⟩ : ∃ W, ((w.alloc (.cells #[.bool s, .slice A n c] 33)).alloc (.cells #[.bool s', .slice A' n' c'] 33)).alloc (.cells #[.bool false, .slice none 0 0] 33) = W := ⟨_, rfl⟩
 have HK := hJ (show Below w.heap.size w W by rw [← hW]; exact W3_k _ _ _ _ _ _ _ _)
 have HA := hJ (show P2 33 W w.heap.size (.bool s) (.slice A n c) by rw [← hW]; exact W3_a _ _ _ _ _ _ _ _)
 have HB := hJ (show P2 33 W (w.heap.size + 1) (.bool s') (.slice A' n' c') by rw [← hW]; exact W3_b _ _ _ _ _ _ _ _)
 have HZ := hJ (show P2 33 W (w.heap.size + 1 + 1) (.bool false) (.slice none 0 0) by rw [← hW]; exact W3_z _ _ _ _ _ _ _ _)
 have HX := hJ (PIo.new hx HK.out)
 have HY := hJ (PIo.new hy HK.out)
 clear hx hy
 obtain ⟨b0, b1⟩ := HB.out.cells
 go_enter Tryz.func102, Tryz.ntmps102
 go_wp2_with fail
 refine (isone_any y s' A' n' c' W HY.out (by omega)).mono ?_
 rintro e w1 ⟨rfl, hb1⟩
 have HB1 := hJ (bt HK.out hb1)
 have HA1 := hJ (HA.out.new hb1)
 have HBB := hJ (HB.out.new hb1)
 have HZ1 := hJ (HZ.out.new hb1)
 have HX1 := hJ (PIo.new HX.out hb1)
 have HY1 := hJ (PIo.new HY.out hb1)
 clear hb1 b0 b1 hW
 obtain ⟨a0, a1⟩ := HA1.out.cells
 obtain ⟨b0, b1⟩ := HBB.out.cells
 by_cases h1 : y = 1
 ·have HE := hJ (show x / y = x by rw [h1, Int.ediv_one])
  rw [h1, one_true, ← h1]
  clear h1
  obtain ⟨z0, z1⟩ := HZ1.out.cells
  have f0 := HZ1.out.frozen 0
  have f1 := HZ1.out.frozen 1
  go_wp2
  exact bodyPost_ret (results_cell_row rfl _ _ _ _ _ _ _ rfl (HZ1.out.all (.bool s) (.slice A n c)) Tryz.underlying33 rfl W_size) rfl (RetP.stored (PIo.eq HX1.out HE.out.symm) HZ1.out rfl rfl HB1.out (by omega) _ _)
 ·rw [one_false h1]
  clear h1
  go_wp2_with fail
  refine (pdiv_any x y s s' A A' n c n' c' w1 HX1.out HY1.out hn hn' hy0).mono ?_
  rintro e w5 ⟨s5, A5, n5, c5, s6, A6, n6, c6, rfl, hr5, hr6, hb5⟩
  obtain ⟨x5, hx5⟩ := nmz ((w5.alloc (.cells #[.bool s5, .slice A5 n5 c5] 33)).alloc (.cells #[.bool s6, .slice A6 n6 c6] 33))
  have HK5 := hJ (show Below w5.heap.size w5 x5 by rw [← hx5]; exact W2_k _ _ _ _ _ _)
  have HQ5 := hJ (show P2 33 x5 w5.heap.size (.bool s5) (.slice A5 n5 c5) by rw [← hx5]; exact W2_a _ _ _ _ _ _)
  have HR5 := hJ (PIo.new hr5 HK5.out)
  have HZ5 := hJ ((HZ1.out.new hb5).new HK5.out)
  have HB5 := hJ (bt HB1.out (bt hb5 HK5.out))
  clear hr5 hr6 hb5 a0 a1 b0 b1
  obtain ⟨q0, q1⟩ := HQ5.out.cells
  obtain ⟨z0, z1⟩ := HZ5.out.cells
  have f0 := HZ5.out.frozen 0
  have f1 := HZ5.out.frozen 1
  go_wp2
  exact bodyPost_ret (results_cell_row rfl _ _ _ _ _ _ _ rfl (HZ5.out.all (.bool s5) (.slice A5 n5 c5)) Tryz.underlying33 rfl W_size) rfl (RetP.stored HR5.out HZ5.out rfl rfl HB5.out (by omega) _ _)
/-- The first error of a list, or 0. -/
def feV : List Int → Int
 | [] => 0
 | e :: l => if e = 0 then feV l else e
theorem feV_drop {l : List Int} {i : Nat} (h : i < l.length) : feV (l.drop i) = if l[i] = 0 then feV (l.drop (i + 1)) else l[i] := by
 rw [List.drop_eq_getElem_cons h]; rfl
/-- A row of error codes. -/
def Codes (w : World) (B : Nat) (l : List Int) : Prop := ∀ i (hi : i < l.length), w.cell? ⟨B, i, none⟩ = some (.int .i64 l[i])
set_option maxRecDepth 100000 in
set_option maxHeartbeats 1600000 in
theorem ferror_any (l : List Int) (B k : Nat) (w : World) (hl : Codes w B l) (hk : l.length = k) (hk2 : k ≤ 1000) :
  Calls Tryz.prog 110 #[.slice (some ⟨B, 0, none⟩) k k] w fun e w' => e = .returned (.int .i64 (feV l)) ∧ w = w' := by
 have HL := hJ hl
 have HK := hJ hk
 clear hl hk
 go_enter Tryz.func110, Tryz.ntmps110
 go_wp2_with fail
 go_loopw [7] (fun v wr => w = wr ∧ ∃ i : Nat, i ≤ k ∧ v = .int .i64 (i : Int) ∧ Hid (feV (l.drop i) = feV l)) (fun v _ => k - (intOf v).toNat)
 case atStart => exact ⟨rfl, 0, by omega, rfl, hJ rfl⟩
 case round =>
  obtain ⟨hw, i, hi, rfl, hf⟩ := hrel
  obtain rfl := hw
  by_cases hlt : i < k
  ·have hli : i < l.length := by rw [HK.out]; exact hlt
   have e0 := HL.out i hli
   have HD := hJ (feV_drop hli)
   have h0i : (0 : Int) ≤ (i : Int) := by omega
   have hik : (i : Int) < (k : Int) := by omega
   have hwi : IntKind.i64.wrap ((i : Int) + 1) = (i : Int) + 1 := IntWalk.i64_in _ (by omega)
   obtain ⟨x, hx⟩ : ∃ x, l[i] = x := ⟨_, rfl⟩
   rw [hx] at e0 HD
   clear hx
   by_cases hz : x = 0
   ·subst hz
    go_wp2
    go_roundw
    case rel => exact ⟨by first | rfl | trivial, i + 1, by omega, by go_num, hJ (by rw [← hf.out, HD.out, if_pos rfl])⟩
    case measure => simp [intOf]; omega
   ·have HZ := hJ hz
    have hzb : (x == 0) = false := by simp [hz]
    go_wp2
    go_ret
    exact ⟨by rw [← hf.out, HD.out, if_neg HZ.out]; rfl, rfl⟩
  ·obtain rfl : i = k := by omega
   go_wp2
   go_ret
   exact ⟨by rw [← hf.out, List.drop_of_length_le (by rw [HK.out]; omega)]; rfl, rfl⟩
end Go.Proofs.YtbhnaffbgggabaaGreat
