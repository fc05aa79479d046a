/- Contracts of the program's fractions: commonDivisor, product. Conditions: as each statement has them. -/
import Derived.Test.YtbhnaffbgggabaaGreatFB
namespace Go.Proofs.YtbhnaffbgggabaaGreat
open Go.RowKit
attribute [local go_sem ↓] Go.wp_at_zero Go.wp_at_succ
set_option maxRecDepth 100000 in
set_option maxHeartbeats 1600000 in
theorem fcommon_any (x y : Int) (s s' : Bool) (A A' : Option Addr) (n c n' c' : Nat) (w : World) (hx : PI w s A n c x) (hy : PI w s' A' n' c' y) (hn : n ≤ 200000) (hn' : n' ≤ 200000) :
  Calls Tryz.prog 99 #[.agg #[.bool s, .slice A n c], .agg #[.bool s', .slice A' n' c']] w (RetP ((Nat.gcd x.natAbs y.natAbs : Nat) : Int) w) := by
 obtain ⟨W, hW⟩ : ∃ W, ((w.alloc (.cells #[.bool s, .slice A n c] 33)).alloc (.cells #[.bool s', .slice A' n' c'] 33)).alloc (.cells #[.bool false, .slice none 0 0] 33) = W := ⟨_, rfl⟩
 have HK := hJ (show Below w.heap.size w W by rw [← hW]; exact W3_k _ _ _ _ _ _ _ _)
 have HA := hJ (show P2 33 W w.heap.size (.bool s) (.slice A n c) by rw [← hW]; exact W3_a _ _ _ _ _ _ _ _)
 have HB := hJ (show P2 33 W (w.heap.size + 1) (.bool s') (.slice A' n' c') by rw [← hW]; exact W3_b _ _ _ _ _ _ _ _)
 have HZ := hJ (show P2 33 W (w.heap.size + 1 + 1) (.bool false) (.slice none 0 0) by rw [← hW]; exact W3_z _ _ _ _ _ _ _ _)
 have HX := hJ (PIo.new hx HK.out)
 have HY := hJ (PIo.new hy HK.out)
 have HG : Hid (x = 1 ∨ y = 1 → ((Nat.gcd x.natAbs y.natAbs : Nat) : Int) = 1) := hJ (by rintro (h | h) <;> rw [h] <;> simp)
 clear hx hy
 obtain ⟨G, hG⟩ : ∃ G, ((Nat.gcd x.natAbs y.natAbs : Nat) : Int) = G := ⟨_, rfl⟩
 have HGE := hJ hG
 rw [hG] at HG ⊢
 clear hG
 obtain ⟨a0, a1⟩ := HA.out.cells
 go_enter Tryz.func99, Tryz.ntmps99
 go_wp2_with fail
 refine (isone_any x s A n c W HX.out (by omega)).mono ?_
 rintro e w1 ⟨rfl, hb1⟩
 have HB1 := hJ (bt HK.out hb1)
 have HA1 := hJ (HA.out.new hb1)
 have HBB := hJ (HB.out.new hb1)
 have HZ1 := hJ (HZ.out.new hb1)
 have HX1 := hJ (PIo.new HX.out hb1)
 have HY1 := hJ (PIo.new HY.out hb1)
 clear hb1 a0 a1 hW
 by_cases h1 : x = 1
 ·have HG1 := hJ (HG.out (.inl h1))
  rw [h1, one_true]
  clear h1
  go_wp2_with fail
  refine (from_any 1 w1 (by decide)).mono ?_
  rintro e w2 ⟨s2, A2, n2, c2, rfl, hr2, hb2⟩
  have HR2 := hJ (PIo.eq hr2 HG1.out.symm)
  have HB2 := hJ (bt HB1.out hb2)
  have HZ2 := hJ (HZ1.out.new hb2)
  clear hr2 hb2
  obtain ⟨z0, z1⟩ := HZ2.out.cells
  have f0 := HZ2.out.frozen 0
  have f1 := HZ2.out.frozen 1
  go_wp2
  exact bodyPost_ret (results_cell_row rfl _ _ _ _ _ _ _ rfl (HZ2.out.all (.bool s2) (.slice A2 n2 c2)) Tryz.underlying33 rfl W_size) rfl (RetP.stored HR2.out HZ2.out rfl rfl HB2.out (by omega) _ _)
 ·rw [one_false h1]
  clear h1
  obtain ⟨b0, b1⟩ := HBB.out.cells
  go_wp2_with fail
  refine (isone_any y s' A' n' c' w1 HY1.out (by omega)).mono ?_
  rintro e w2 ⟨rfl, hb2⟩
  have HB2 := hJ (bt HB1.out hb2)
  have HA2 := hJ (HA1.out.new hb2)
  have HBB2 := hJ (HBB.out.new hb2)
  have HZ2 := hJ (HZ1.out.new hb2)
  have HX2 := hJ (PIo.new HX1.out hb2)
  have HY2 := hJ (PIo.new HY1.out hb2)
  clear hb2 b0 b1
  by_cases h2 : y = 1
  ·have HG1 := hJ (HG.out (.inr h2))
   rw [h2, one_true]
   clear h2
   go_wp2_with fail
   refine (from_any 1 w2 (by decide)).mono ?_
   rintro e w3 ⟨s2, A2, n2, c2, rfl, hr2, hb2⟩
   have HR2 := hJ (PIo.eq hr2 HG1.out.symm)
   have HB3 := hJ (bt HB2.out hb2)
   have HZ3 := hJ (HZ2.out.new hb2)
   clear hr2 hb2
   obtain ⟨z0, z1⟩ := HZ3.out.cells
   have f0 := HZ3.out.frozen 0
   have f1 := HZ3.out.frozen 1
   go_wp2
   exact bodyPost_ret (results_cell_row rfl _ _ _ _ _ _ _ rfl (HZ3.out.all (.bool s2) (.slice A2 n2 c2)) Tryz.underlying33 rfl W_size) rfl (RetP.stored HR2.out HZ3.out rfl rfl HB3.out (by omega) _ _)
  ·rw [one_false h2]
   clear h2
   obtain ⟨a0, a1⟩ := HA2.out.cells
   obtain ⟨b0, b1⟩ := HBB2.out.cells
   go_wp2_with fail
   refine (pgcd_any x y s s' A A' n c n' c' w2 HX2.out HY2.out hn hn').mono ?_
   rw [HGE.out]
   rintro e w3 ⟨s2, A2, n2, c2, rfl, hr2, hb2⟩
   have HR2 := hJ hr2
   have HB3 := hJ (bt HB2.out hb2)
   have HZ3 := hJ (HZ2.out.new hb2)
   clear hr2 hb2 a0 a1 b0 b1
   obtain ⟨z0, z1⟩ := HZ3.out.cells
   have f0 := HZ3.out.frozen 0
   have f1 := HZ3.out.frozen 1
   go_wp2
   exact bodyPost_ret (results_cell_row rfl _ _ _ _ _ _ _ rfl (HZ3.out.all (.bool s2) (.slice A2 n2 c2)) Tryz.underlying33 rfl W_size) rfl (RetP.stored HR2.out HZ3.out rfl rfl HB3.out (by omega) _ _)
/-- A row of the program's integers. -/
def Pel (w : World) (B : Nat) (ys : List Int) : Prop := ∀ i (hi : i < ys.length), ∃ (s : Bool) (A : Option Addr) (n c : Nat), w.cell? ⟨B, i * 2, none⟩ = some (.bool s) ∧ w.cell? ⟨B, i * 2 + 1, none⟩ = some (.slice A n c) ∧ PI w s A n c ys[i] ∧ ys[i].natAbs < lim
theorem Pel.new {w w' : World} {B : Nat} {ys : List Int} (h : Pel w B ys) (hb : Below w.heap.size w w') : Pel w' B ys := by
 intro i hi
 obtain ⟨s, A, n, c, h1, h2, h3, h4⟩ := h i hi
 exact ⟨s, A, n, c, (hb.cell (World.block_lt_of_cell? w _ h1)).trans h1, (hb.cell (World.block_lt_of_cell? w _ h2)).trans h2, PIo.new h3 hb, h4⟩
/-- A row in a block of its own keeps where another block of no integers is written. -/
theorem Pel.box {w : World} {B : Nat} {ys : List Int} {t : TypeId} {g : Nat} {b0 : Bool} {A0 : Option Addr} {n0 c0 : Nat} (h : Pel w B ys) (hp : P2 t w g (.bool b0) (.slice A0 n0 c0)) (hg : B ≠ g) (u0 u1 : Value) : Pel ((w.setCell ⟨g, 0, none⟩ u0).setCell ⟨g, 1, none⟩ u1) B ys := by
 intro i hi
 obtain ⟨s, A, n, c, h1, h2, h3, h4⟩ := h i hi
 have far : ∀ j v, w.cell? ⟨B, j, none⟩ = some v → ((w.setCell ⟨g, 0, none⟩ u0).setCell ⟨g, 1, none⟩ u1).cell? ⟨B, j, none⟩ = some v := fun j v hv => by
  rw [World.cell?_setCell_far _ _ _ _ (fun e => hg e.symm), World.cell?_setCell_far _ _ _ _ (fun e => hg e.symm)]
  exact hv
 exact ⟨s, A, n, c, far _ _ h1, far _ _ h2, PIo.box h3 hp rfl rfl u0 u1, h4⟩
theorem pel_lit1 {w : World} {t : TypeId} {s : Bool} {A : Option Addr} {n c : Nat} {y : Int} (h : PI w s A n c y) (hy : y.natAbs < lim) : Pel (w.alloc (.cells #[.bool s, .slice A n c] t)) w.heap.size [y] := by
 have hb : Below w.heap.size w (w.alloc (.cells #[.bool s, .slice A n c] t)) := (Below.refl _ _).alloc (Nat.le_refl _) _
 have hh := (P2.lit w t (.bool s) (.slice A n c)).cells
 intro i hi
 match i, hi with
 | 0, _ => exact ⟨s, A, n, c, hh.1, hh.2, PIo.new h hb, hy⟩
/-- The product of a list, with the first error. -/
def pvV (x : Int) : List Int → Int
 | [] => x
 | y :: l => if (x * y).natAbs < lim then pvV (x * y) l else 0
def pvC (x : Int) : List Int → Int
 | [] => 0
 | y :: l => if (x * y).natAbs < lim then pvC (x * y) l else 4
theorem pv_one (x y : Int) : pvV x [y] = outV (x * y) ∧ pvC x [y] = outC (x * y) := ⟨rfl, rfl⟩
theorem outVC (z : Int) : (z.natAbs < lim ∧ outV z = z ∧ outC z = 0) ∨ (¬ z.natAbs < lim ∧ outV z = 0 ∧ outC z = 4) := by
 unfold outV outC
 by_cases h : z.natAbs < lim
 ·exact .inl ⟨h, if_pos h, if_pos h⟩
 ·exact .inr ⟨h, if_neg h, if_neg h⟩
set_option maxRecDepth 100000 in
set_option maxHeartbeats 3200000 in
theorem fproductc_any (ys : List Int) (x : Int) (s : Bool) (A : Option Addr) (n c B k cap : Nat) (w : World) (hx : PI w s A n c x) (hxl : x.natAbs < lim) (hy : Pel w B ys) (hB : B < w.heap.size) (hk : ys.length = k) (hk2 : k ≤ 1000) :
  Calls Tryz.prog 109 #[.agg #[.bool s, .slice A n c], .slice (some ⟨B, 0, none⟩) k cap] w (RetPE (pvV x ys) (pvC x ys) w) := by
 obtain ⟨W, hW⟩ : ∃ W, W2 33 w (.bool s) (.slice A n c) (.bool false) (.slice none 0 0) = W := ⟨_, rfl⟩
 have hx0 : (w.alloc (.cells #[.bool s, .slice A n c] 33)).alloc (.cells #[.bool false, .slice none 0 0] 33) = W := hW
 have HK := hJ (show Below w.heap.size w W by rw [← hW]; exact W2_k _ _ _ _ _ _)
 have HA := hJ (show P2 33 W w.heap.size (.bool s) (.slice A n c) by rw [← hW]; exact W2_a _ _ _ _ _ _)
 have HZ := hJ (show P2 33 W (w.heap.size + 1) (.bool false) (.slice none 0 0) by rw [← hW]; exact W2_z _ _ _ _ _ _)
 have HX := hJ (PIo.new hx HK.out)
 have HY := hJ (hy.new HK.out)
 have HXL := hJ hxl
 have HKL := hJ hk
 have HBne := hJ (show B ≠ w.heap.size ∧ B ≠ w.heap.size + 1 by omega)
 obtain ⟨h, hh⟩ : ∃ h, w.heap.size = h := ⟨_, rfl⟩
 have HH := hJ hh
 rw [hh] at HA HZ HBne
 clear hx hy hxl hk hW
 go_enter Tryz.func109, Tryz.ntmps109
 go_wp2_with fail
 clear hx0 hh
 go_loopw [11] (fun v wr => ∃ (i : Nat) (z : Int) (s : Bool) (A : Option Addr) (n c : Nat), i ≤ k ∧ v = .int .i64 (i : Int) ∧ P2 33 wr h (.bool s) (.slice A n c) ∧ PI wr s A n c z ∧ z.natAbs < lim ∧ P2 33 wr (h + 1) (.bool false) (.slice none 0 0) ∧ Pel wr B ys ∧ Hid (pvV z (ys.drop i) = pvV x ys ∧ pvC z (ys.drop i) = pvC x ys) ∧ Below w.heap.size w wr) (fun v _ => k - (intOf v).toNat)
 case atStart => exact ⟨0, x, s, A, n, c, by omega, rfl, HA.out, HX.out, HXL.out, HZ.out, HY.out, hJ ⟨rfl, rfl⟩, HK.out⟩
 case round =>
  obtain ⟨i, z, s, A, n, c, hi, rfl, hp, hx, hl, hz, hy, hf, hb⟩ := hrel
  have HP := hJ hp
  have HX := hJ hx
  have HL := hJ hl
  have HZ := hJ hz
  have HY := hJ hy
  have HB := hJ hb
  have hn := plim hx hl
  clear hp hx hl hz hy hb
  by_cases hlt : i < k
  ·have hli : i < ys.length := by rw [HKL.out]; exact hlt
   obtain ⟨s1, A1, n1, c1, e0, e1, h1, hl1⟩ := HY.out i hli
   have hn1 := plim h1 hl1
   have HD := hJ (List.drop_eq_getElem_cons hli)
   obtain ⟨y, hyy⟩ : ∃ y, ys[i] = y := ⟨_, rfl⟩
   rw [hyy] at h1 hl1 HD
   rw [HD.out] at hf
   have HP1 := hJ h1
   have HE0 := hJ e0
   have HE1 := hJ e1
   clear hyy HD h1 hl1
   have h0i : (0 : Int) ≤ (i : Int) := by omega
   have hik : (i : Int) < (k : Int) := by omega
   have hwi : IntKind.i64.wrap ((i : Int) + 1) = (i : Int) + 1 := IntWalk.i64_in _ (by omega)
   obtain ⟨a0, a1⟩ := (HP.out.alloc (.cells #[.bool s1, .slice A1 n1 c1] 33)).cells
   obtain ⟨V, hV⟩ : ∃ V, wr.alloc (.cells #[.bool s1, .slice A1 n1 c1] 33) = V := ⟨_, rfl⟩
   have HV := hJ (show Below wr.heap.size wr V by rw [← hV]; exact (Below.refl _ _).alloc (Nat.le_refl _) _)
   have HQ := hJ (show P2 33 V wr.heap.size (.bool s1) (.slice A1 n1 c1) by rw [← hV]; exact P2.lit _ _ _ _)
   rw [hV] at a0 a1
   obtain ⟨q0, q1⟩ := HQ.out.cells
   go_wp2_with fail
   refine (pmul_any z y s s1 A A1 n c n1 c1 V (PIo.new HX.out HV.out) (PIo.new HP1.out HV.out) (by omega) (by omega)).mono ?_
   rintro e w2 ⟨s2, A2, n2, c2, rfl, hr2, hb2⟩
   have HB2 := hJ (bt HV.out hb2)
   have HR2 := hJ hr2
   have HP2 := hJ (HP.out.new HB2.out)
   have HZ2 := hJ (HZ.out.new HB2.out)
   have HY2 := hJ (HY.out.new HB2.out)
   have HBX := hJ (bt HB.out HB2.out)
   clear hr2 hb2 a0 a1 q0 q1 e0 e1 hV
   obtain ⟨a0, a1⟩ := HP2.out.cells
   have f0 := HP2.out.frozen 0
   have f1 := HP2.out.frozen 1
   obtain ⟨U, hU⟩ : ∃ U, (w2.setCell ⟨h, 0, none⟩ (.bool s2)).setCell ⟨h, 1, none⟩ (.slice A2 n2 c2) = U := ⟨_, rfl⟩
   have HP3 := hJ (show P2 33 U h (.bool s2) (.slice A2 n2 c2) by rw [← hU]; exact HP2.out.all _ _)
   have HZ3 := hJ (show P2 33 U (h + 1) (.bool false) (.slice none 0 0) by rw [← hU]; exact HZ2.out.far2 (by omega) _ _)
   have HY3 := hJ (show Pel U B ys by rw [← hU]; exact HY2.out.box HP2.out HBne.out.1 _ _)
   have HR3 := hJ (show PI U s2 A2 n2 c2 (outV (z * y)) by rw [← hU]; exact PIo.box HR2.out HP2.out rfl rfl _ _)
   have HB3 := hJ (show Below w.heap.size w U by rw [← hU]; exact below_box HBX.out (by rw [HH.out]; omega) _ _)
   clear HR2 HP2 HZ2 HY2 HBX HP HX HZ HY HB HQ HV
   rcases outVC (z * y) with ⟨ho, hv, hc⟩ | ⟨ho, hv, hc⟩
   ·rw [hc]
    have HR4 := hJ (PIo.eq HR3.out hv)
    have HF := hJ (show pvV (z * y) (ys.drop (i + 1)) = pvV x ys ∧ pvC (z * y) (ys.drop (i + 1)) = pvC x ys by
     have h1 := hf.out
     simp only [pvV, pvC, if_pos ho] at h1
     exact h1)
    have HO := hJ ho
    clear ho hv hc hf HR3
    go_wp2
    go_roundw
    case rel => exact ⟨i + 1, z * y, s2, A2, n2, c2, by omega, by go_num, HP3.out, HR4.out, HO.out, HZ3.out, HY3.out, HF.out, HB3.out⟩
    case measure => simp [intOf]; omega
   ·rw [hc]
    have HF := hJ (show (0 : Int) = pvV x ys ∧ (4 : Int) = pvC x ys by
     have h1 := hf.out
     simp only [pvV, pvC, if_neg ho] at h1
     exact h1)
    clear ho hv hc hf HR3
    obtain ⟨z0, z1⟩ := HZ3.out.cells
    have g0 := HZ3.out.frozen 0
    have g1 := HZ3.out.frozen 1
    go_wp2
    exact bodyPost_ret (results_cell1 rfl _ _ _ _ _ _ _ rfl (HZ3.out.all (.bool false) (.slice none 0 0)) Tryz.underlying33 rfl W_size) rfl (by rw [← HF.out.1, ← HF.out.2]; exact RetPE.stored (PI.zero U) HZ3.out rfl rfl HB3.out (by rw [HH.out]; omega) _ _)
  ·obtain rfl : i = k := by omega
   have HF := hJ (show z = pvV x ys ∧ (0 : Int) = pvC x ys by
    have h1 := hf.out
    rw [List.drop_of_length_le (by rw [HKL.out]; omega)] at h1
    exact h1)
   clear hf
   obtain ⟨a0, a1⟩ := HP.out.cells
   obtain ⟨z0, z1⟩ := HZ.out.cells
   have g0 := HZ.out.frozen 0
   have g1 := HZ.out.frozen 1
   go_wp2
   exact bodyPost_ret (results_cell1 rfl _ _ _ _ _ _ _ rfl (HZ.out.all (.bool s) (.slice A n c)) Tryz.underlying33 rfl W_size) rfl (by rw [← HF.out.1, ← HF.out.2]; exact RetPE.stored HX.out HZ.out rfl rfl HB.out (by rw [HH.out]; omega) _ _)
theorem fproduct_any (ys : List Int) (x : Int) (s : Bool) (A : Option Addr) (n c B k : Nat) (w : World) (hx : PI w s A n c x) (hxl : x.natAbs < lim) (hy : Pel w B ys) (hB : B < w.heap.size) (hk : ys.length = k) (hk2 : k ≤ 1000) :
  Calls Tryz.prog 109 #[.agg #[.bool s, .slice A n c], .slice (some ⟨B, 0, none⟩) k k] w (RetPE (pvV x ys) (pvC x ys) w) := fproductc_any ys x s A n c B k k w hx hxl hy hB hk hk2
end Go.Proofs.YtbhnaffbgggabaaGreat
