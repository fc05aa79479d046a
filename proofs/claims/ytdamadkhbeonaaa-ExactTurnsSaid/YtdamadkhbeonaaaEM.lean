/- The mathematics of directions, of sides and of circles. No walk. -/
import Derived.Test.YtdamadkhbeonaaaQA
namespace Go.Proofs.Ytdamadkhbeonaaa
open Go.RowKit
attribute [local go_sem ↓] Go.wp_at_zero Go.wp_at_succ
set_option linter.unusedVariables false
set_option linter.unusedSimpArgs false
/-- Which half of a turn. -/
def halfV (x y : Int) : Int := if 0 < y ∨ (y = 0 ∧ 0 < x) then 0 else 1
/-- The order of the angles of (a, b) and (c, d), as the program has it. -/
def angV (a b c d : Int) : Int := if cmpI (halfV a b) (halfV c d) = 0 then cmpI (c * b) (d * a) else cmpI (halfV a b) (halfV c d)
/-- The quarter of a turn, as the reference has it. -/
def quV (x y : Int) : Int := if 0 < x ∧ 0 ≤ y then 0 else if x ≤ 0 ∧ 0 < y then 1 else if x < 0 ∧ y ≤ 0 then 2 else 3
/-- The order of the angles, as the reference has it. -/
def ordV (a b c d : Int) : Int := if quV a b < quV c d then -1 else if quV c d < quV a b then 1 else if 0 < a * d - b * c then -1 else if a * d - b * c < 0 then 1 else 0
/-- A direction with coordinates from -4 to 4. -/
def Di (x y : Int) : Prop := (-4 ≤ x ∧ x ≤ 4) ∧ (-4 ≤ y ∧ y ≤ 4) ∧ ¬(x = 0 ∧ y = 0)
/-- The place of a direction on the way around. -/
def rk (x y : Int) : Int := if 0 < x ∧ 0 ≤ y then 840 * y / (x + y) else if x ≤ 0 ∧ 0 < y then 840 + 840 * (-x) / (y - x) else if x < 0 ∧ y ≤ 0 then 1680 + 840 * (-y) / (-x - y) else 2520 + 840 * x / (x - y)
def diZ (n : Nat) : Int := (n : Int) - 4
def rkAll : Bool := (List.range 9).all fun a => (List.range 9).all fun b => (List.range 9).all fun c => (List.range 9).all fun d =>
 (diZ a == 0 && diZ b == 0) || (diZ c == 0 && diZ d == 0) || (angV (diZ a) (diZ b) (diZ c) (diZ d) == cmpI (rk (diZ a) (diZ b)) (rk (diZ c) (diZ d)) && ordV (diZ a) (diZ b) (diZ c) (diZ d) == cmpI (rk (diZ a) (diZ b)) (rk (diZ c) (diZ d)))
theorem rkAll_true : rkAll = true := by decide +kernel
theorem rk_ok {a b c d : Int} (h : Di a b) (h' : Di c d) : angV a b c d = cmpI (rk a b) (rk c d) ∧ ordV a b c d = cmpI (rk a b) (rk c d) := by
 have e : ∀ {x : Int}, -4 ≤ x ∧ x ≤ 4 → ∃ n, n ∈ List.range 9 ∧ diZ n = x := fun {x} hx => ⟨(x + 4).toNat, List.mem_range.2 (by omega), by unfold diZ; omega⟩
 obtain ⟨i, hi, rfl⟩ := e h.1
 obtain ⟨j, hj, rfl⟩ := e h.2.1
 obtain ⟨k, hk, rfl⟩ := e h'.1
 obtain ⟨l, hl, rfl⟩ := e h'.2.1
 have t := rkAll_true
 unfold rkAll at t
 have t := List.all_eq_true.1 (List.all_eq_true.1 (List.all_eq_true.1 (List.all_eq_true.1 t i hi) j hj) k hk) l hl
 simp only [Bool.or_eq_true, Bool.and_eq_true, beq_iff_eq] at t
 rcases t with (t | t) | t
 ·exact absurd t h.2.2
 ·exact absurd t h'.2.2
 ·exact t
/-- Strictly between two directions, by the places on the way around. -/
def seV (f t d : Int) : Bool := if f < t then decide (f < d) && decide (d < t) else decide (f < d) || decide (d < t)
theorem se_iff {f t d : Int} : seV f t d = true ↔ (f < t ∧ f < d ∧ d < t) ∨ (¬ f < t ∧ (f < d ∨ d < t)) := by
 unfold seV
 by_cases h : f < t
 ·rw [if_pos h, Bool.and_eq_true, decide_eq_true_eq, decide_eq_true_eq]; omega
 ·rw [if_neg h, Bool.or_eq_true, decide_eq_true_eq, decide_eq_true_eq]; omega
theorem se_t {f t d : Int} (h : (f < t ∧ f < d ∧ d < t) ∨ (¬ f < t ∧ (f < d ∨ d < t))) : seV f t d = true := se_iff.2 h
theorem se_f {f t d : Int} (h : ¬((f < t ∧ f < d ∧ d < t) ∨ (¬ f < t ∧ (f < d ∨ d < t)))) : seV f t d = false := by
 rw [← Bool.not_eq_true, se_iff]; exact h
/-- Strictly between, as the program has it. -/
def scV (fx fy tx ty dx dy : Int) : Bool := if angV fx fy tx ty < 0 then decide (angV fx fy dx dy < 0) && decide (angV dx dy tx ty < 0) else decide (angV fx fy dx dy < 0) || decide (angV dx dy tx ty < 0)
theorem cm_neg {a b : Int} : (cmpI a b < 0) = (a < b) := by
 refine propext ⟨fun h => ?_, fun h => ?_⟩
 ·unfold cmpI at h
  split at h
  ·assumption
  ·split at h <;> omega
 ·unfold cmpI; rw [if_pos h]; decide
theorem cm_zero {a b : Int} : (cmpI a b = 0) = (a = b) := by
 refine propext ⟨fun h => ?_, fun h => ?_⟩
 ·unfold cmpI at h
  split at h
  ·omega
  ·split at h <;> omega
 ·unfold cmpI; rw [if_neg (by omega), if_neg (by omega)]
theorem sc_ok {fx fy tx ty dx dy : Int} (hf : Di fx fy) (ht : Di tx ty) (hd : Di dx dy) : scV fx fy tx ty dx dy = seV (rk fx fy) (rk tx ty) (rk dx dy) := by
 unfold scV seV
 rw [(rk_ok hf ht).1, (rk_ok hf hd).1, (rk_ok hd ht).1]
 simp only [cm_neg]
/-- Strictly between, as the reference has it. -/
def rsV (fx fy tx ty dx dy : Int) : Bool :=
 if ordV dx dy fx fy = 0 then false else if ordV tx ty fx fy = 0 then true else
 if (if ordV dx dy fx fy < 0 then (3 : Int) else 2) = (if ordV tx ty fx fy < 0 then 3 else 2) then decide (ordV dx dy tx ty < 0) else decide ((if ordV dx dy fx fy < 0 then (3 : Int) else 2) < (if ordV tx ty fx fy < 0 then 3 else 2))
theorem rs_ok {fx fy tx ty dx dy : Int} (hf : Di fx fy) (ht : Di tx ty) (hd : Di dx dy) : rsV fx fy tx ty dx dy = seV (rk fx fy) (rk tx ty) (rk dx dy) := by
 unfold rsV
 rw [(rk_ok hd hf).2, (rk_ok ht hf).2, (rk_ok hd ht).2]
 simp only [cm_neg, cm_zero]
 generalize rk fx fy = f
 generalize rk tx ty = t
 generalize rk dx dy = d
 by_cases h1 : d = f
 ·rw [if_pos h1, se_f (by omega)]
 ·rw [if_neg h1]
  by_cases h2 : t = f
  ·rw [if_pos h2, se_t (by omega)]
  ·rw [if_neg h2]
   by_cases h3 : d < f
   ·by_cases h4 : t < f
    ·rw [if_pos h3, if_pos h4, if_pos rfl]
     by_cases h5 : d < t
     ·rw [decide_eq_true h5, se_t (by omega)]
     ·rw [decide_eq_false h5, se_f (by omega)]
    ·rw [if_pos h3, if_neg h4, if_neg (by decide), se_f (by omega)]
     rfl
   ·by_cases h4 : t < f
    ·rw [if_neg h3, if_pos h4, if_neg (by decide), se_t (by omega)]
     rfl
    ·rw [if_neg h3, if_neg h4, if_pos rfl]
     by_cases h5 : d < t
     ·rw [decide_eq_true h5, se_t (by omega)]
     ·rw [decide_eq_false h5, se_f (by omega)]
/-- The error of a direction. -/
def diE (x y : Int) : Int := if x < -2147483648 ∨ 2147483648 < x ∨ y < -2147483648 ∨ 2147483648 < y then 5 else if x = 0 ∧ y = 0 then 1 else 0
theorem di_e {x y : Int} (h : Di x y) : diE x y = 0 := by
 unfold diE
 have := h.1
 have := h.2.1
 rw [if_neg (by omega), if_neg h.2.2]
/-- The first error of a list. -/
def fsE (f : Int × Int → Int) : List (Int × Int) → Int
 | [] => 0
 | p :: l => if f p = 0 then fsE f l else f p
theorem fs_drop {f : Int × Int → Int} {l : List (Int × Int)} {i : Nat} {p : Int × Int} (h : l[i]? = some p) : fsE f (l.drop i) = if f p = 0 then fsE f (l.drop (i + 1)) else f p := by
 obtain ⟨hi, rfl⟩ := List.getElem?_eq_some_iff.1 h
 rw [List.drop_eq_getElem_cons hi, fsE]
/-- On which side of the line from a to b a point lies. -/
def sdV (ax ay bx by' cx cy : Int) : Int := cmpI ((bx - ax) * (cy - ay)) ((by' - ay) * (cx - ax))
/-- What is seen from p: ahead and to the left. -/
def ahV (ax ay bx by' px py : Int) : Int := (ax - px) * (bx - px) + (ay - py) * (by' - py)
def lfV (ax ay bx by' px py : Int) : Int := (ax - px) * (by' - py) - (ay - py) * (bx - px)
def arV (ax ay bx by' cx cy dx dy : Int) : Int := ahV ax ay bx by' cx cy * lfV ax ay bx by' dx dy - lfV ax ay bx by' cx cy * ahV ax ay bx by' dx dy
/-- The program's circle. -/
def ciV (ax ay bx by' cx cy dx dy : Int) : Int := sdV ax ay bx by' cx cy * cmpI (arV ax ay bx by' cx cy dx dy) 0
theorem sd_sub (ax ay bx by' cx cy : Int) : sdV ax ay bx by' cx cy = cmpI ((bx - ax) * (cy - ay) - (by' - ay) * (cx - ax)) 0 := by unfold sdV cmpI; split <;> split <;> (try split) <;> (try split) <;> omega
theorem cmp_opp (a : Int) : cmpI (-a) 0 = -cmpI a 0 := by unfold cmpI; split <;> split <;> (try split) <;> (try split) <;> omega
theorem sd_cyc (ax ay bx by' cx cy : Int) : sdV bx by' cx cy ax ay = sdV ax ay bx by' cx cy := by rw [sd_sub, sd_sub]; congr 1; grind
theorem sd_swap (ax ay bx by' cx cy : Int) : sdV bx by' ax ay cx cy = -sdV ax ay bx by' cx cy := by rw [sd_sub, sd_sub, ← cmp_opp]; congr 1; grind
theorem ar_cyc (ax ay bx by' cx cy dx dy : Int) : arV bx by' cx cy ax ay dx dy = arV ax ay bx by' cx cy dx dy := by unfold arV ahV lfV; grind
theorem ar_swap (ax ay bx by' cx cy dx dy : Int) : arV bx by' ax ay cx cy dx dy = -arV ax ay bx by' cx cy dx dy := by unfold arV ahV lfV; grind
theorem ci_cyc (ax ay bx by' cx cy dx dy : Int) : ciV bx by' cx cy ax ay dx dy = ciV ax ay bx by' cx cy dx dy := by rw [ciV, ciV, sd_cyc, ar_cyc]
theorem ci_swap (ax ay bx by' cx cy dx dy : Int) : ciV bx by' ax ay cx cy dx dy = ciV ax ay bx by' cx cy dx dy := by rw [ciV, ciV, sd_swap, ar_swap, cmp_opp]; grind
/-- The reference's circle, relative to a. -/
def rcU (bx by' cx cy : Int) : Int := cy * (bx * bx + by' * by') - by' * (cx * cx + cy * cy)
def rcW (bx by' cx cy : Int) : Int := bx * (cx * cx + cy * cy) - cx * (bx * bx + by' * by')
def rcS (bx by' cx cy : Int) : Int := 2 * (bx * cy - by' * cx)
def rcF (bx by' cx cy dx dy : Int) : Int := (dx * rcS bx by' cx cy - rcU bx by' cx cy) * (dx * rcS bx by' cx cy - rcU bx by' cx cy) + (dy * rcS bx by' cx cy - rcW bx by' cx cy) * (dy * rcS bx by' cx cy - rcW bx by' cx cy)
def rcR (bx by' cx cy : Int) : Int := rcU bx by' cx cy * rcU bx by' cx cy + rcW bx by' cx cy * rcW bx by' cx cy
theorem rc_id (ax ay bx by' cx cy dx dy : Int) : rcR (bx - ax) (by' - ay) (cx - ax) (cy - ay) - rcF (bx - ax) (by' - ay) (cx - ax) (cy - ay) (dx - ax) (dy - ay) = 4 * (((bx - ax) * (cy - ay) - (by' - ay) * (cx - ax)) * arV ax ay bx by' cx cy dx dy) := by
 obtain ⟨b1, h1⟩ := nmz (bx - ax)
 obtain ⟨b2, h2⟩ := nmz (by' - ay)
 obtain ⟨c1, h3⟩ := nmz (cx - ax)
 obtain ⟨c2, h4⟩ := nmz (cy - ay)
 obtain ⟨d1, h5⟩ := nmz (dx - ax)
 obtain ⟨d2, h6⟩ := nmz (dy - ay)
 have e : arV ax ay bx by' cx cy dx dy = d1 * (c2 * (b1 * b1 + b2 * b2) - b2 * (c1 * c1 + c2 * c2)) + d2 * (b1 * (c1 * c1 + c2 * c2) - c1 * (b1 * b1 + b2 * b2)) - (b1 * c2 - b2 * c1) * (d1 * d1 + d2 * d2) := by
  unfold arV ahV lfV
  subst h1 h2 h3 h4 h5 h6
  grind
 rw [e]
 clear e
 try rw [h1]
 try rw [h2]
 try rw [h3]
 try rw [h4]
 try rw [h5]
 try rw [h6]
 clear h1 h2 h3 h4 h5 h6
 unfold rcR rcF rcU rcW rcS
 grind
theorem cmp_prod (a b : Int) : cmpI (a * b) 0 = cmpI a 0 * cmpI b 0 := by
 rcases Int.lt_trichotomy a 0 with h | rfl | h <;> rcases Int.lt_trichotomy b 0 with g | rfl | g
 ·have := Int.mul_pos_of_neg_of_neg h g; unfold cmpI; rw [if_neg (by omega), if_pos this, if_pos h, if_pos g]; rfl
 ·simp [cmpI]
 ·have := Int.mul_neg_of_neg_of_pos h g; unfold cmpI; rw [if_pos this, if_pos h, if_neg (by omega), if_pos g]; rfl
 ·simp [cmpI]
 ·simp [cmpI]
 ·simp [cmpI]
 ·have := Int.mul_neg_of_pos_of_neg h g; unfold cmpI; rw [if_pos this, if_neg (by omega), if_pos h, if_pos g]; rfl
 ·simp [cmpI]
 ·have := Int.mul_pos h g; unfold cmpI; rw [if_neg (by omega), if_pos this, if_neg (by omega), if_pos h, if_neg (by omega), if_pos g]; rfl
/-- Both circles are one. -/
theorem ci_ref (ax ay bx by' cx cy dx dy : Int) : ciV ax ay bx by' cx cy dx dy = cmpI (rcR (bx - ax) (by' - ay) (cx - ax) (cy - ay)) (rcF (bx - ax) (by' - ay) (cx - ax) (cy - ay) (dx - ax) (dy - ay)) := by
 have h := rc_id ax ay bx by' cx cy dx dy
 obtain ⟨R, hR⟩ := nmz (rcR (bx - ax) (by' - ay) (cx - ax) (cy - ay))
 obtain ⟨F, hF⟩ := nmz (rcF (bx - ax) (by' - ay) (cx - ax) (cy - ay) (dx - ax) (dy - ay))
 rw [hR, hF] at h ⊢
 rw [ciV, sd_sub, ← cmp_prod]
 obtain ⟨z, hz⟩ := nmz (((bx - ax) * (cy - ay) - (by' - ay) * (cx - ax)) * arV ax ay bx by' cx cy dx dy)
 rw [hz] at h ⊢
 unfold cmpI
 split <;> split <;> (try split) <;> (try split) <;> omega
theorem cmpI_is (a b : Int) : (a < b ∧ cmpI a b = -1) ∨ (a = b ∧ cmpI a b = 0) ∨ (b < a ∧ cmpI a b = 1) := by
 unfold cmpI
 split
 ·exact .inl ⟨by assumption, rfl⟩
 ·split
  ·exact .inr (.inr ⟨by assumption, rfl⟩)
  ·exact .inr (.inl ⟨by omega, rfl⟩)
/-- An int of 64 bits. -/
def I6 (x : Int) : Prop := -9223372036854775808 ≤ x ∧ x ≤ 9223372036854775807
theorem i6_wrap {x : Int} (h : I6 x) : IntKind.i64.wrap x = x := IntWalk.i64_in _ h
theorem i6_wf {x : Int} (h : I6 x) : (Lit.int .i64 x).wf = true := WalkArith.wf_i64 h
theorem wf_i6 {x : Int} (h : (Lit.int .i64 x).wf = true) : I6 x := by simpa [I6, Lit.wf, IntKind.min, IntKind.max, IntKind.signed, IntKind.bits] using h
/-- At most k from 0. -/
def Nk (k x : Int) : Prop := -k ≤ x ∧ x ≤ k
theorem nk_mul {k l x y : Int} (h : Nk k x) (g : Nk l y) : Nk (k * l) (x * y) := by
 have hk : 0 ≤ k := by have := h.1; have := h.2; omega
 have hl : 0 ≤ l := by have := g.1; have := g.2; omega
 have e : (x * y).natAbs ≤ (k * l).natAbs := by
  rw [Int.natAbs_mul, Int.natAbs_mul]
  exact Nat.mul_le_mul (by have := h.1; have := h.2; omega) (by have := g.1; have := g.2; omega)
 have hkl := Int.mul_nonneg hk hl
 unfold Nk
 omega
theorem nk_add {k l x y : Int} (h : Nk k x) (g : Nk l y) : Nk (k + l) (x + y) := by unfold Nk at *; omega
theorem nk_sub {k l x y : Int} (h : Nk k x) (g : Nk l y) : Nk (k + l) (x - y) := by unfold Nk at *; omega
theorem nk_le {k l x : Int} (h : Nk k x) (hl : k ≤ l) : Nk l x := by unfold Nk at *; omega
theorem nk_i6 {k x : Int} (h : Nk k x) (hk : k ≤ 9223372036854775807) : I6 x := by unfold Nk at h; unfold I6; omega
theorem di_nk {x y : Int} (h : diE x y = 0) : Nk 2147483648 x ∧ Nk 2147483648 y := by
 unfold diE at h
 split at h
 ·exact absurd h (by decide)
 ·exact ⟨⟨by omega, by omega⟩, by omega, by omega⟩
theorem nk_prod {x y : Int} (h : Nk 2147483648 x) (g : Nk 2147483648 y) : I6 (x * y) := nk_i6 (nk_mul h g) (by decide)
/-- Points as values, one behind the other. -/
def ptV : List (Int × Int) → List Value
 | [] => []
 | p :: l => .int .i64 p.1 :: .int .i64 p.2 :: ptV l
theorem ptV_get {l : List (Int × Int)} {i : Nat} {x y : Int} (h : l[i]? = some (x, y)) : (ptV l).toArray[i * 2]? = some (.int .i64 x) ∧ (ptV l).toArray[i * 2 + 1]? = some (.int .i64 y) := by
 rw [List.getElem?_toArray, List.getElem?_toArray]
 induction l generalizing i with
 | nil => simp at h
 | cons q l ih =>
  match i with
  | 0 => simp at h; subst h; exact ⟨rfl, rfl⟩
  | i + 1 =>
   have := ih (i := i) (by simpa using h)
   rw [show (i + 1) * 2 = i * 2 + 1 + 1 by omega]
   exact this
def diP (p : Int × Int) : Int := diE p.1 p.2
theorem fs_zero {f : Int × Int → Int} {p : Int × Int} {l : List (Int × Int)} (h : f p = 0) : fsE f (p :: l) = fsE f l := by rw [fsE, if_pos h]
theorem fs_two {f : Int × Int → Int} {p q : Int × Int} (h : fsE f [p, q] = 0) : f p = 0 ∧ f q = 0 := by
 unfold fsE at h
 split at h
 ·unfold fsE at h
  split at h
  ·exact ⟨by assumption, by assumption⟩
  ·exact absurd h (by assumption)
 ·exact absurd h (by assumption)
theorem fs_cons {f : Int × Int → Int} {p : Int × Int} {l : List (Int × Int)} (h : fsE f (p :: l) = 0) : f p = 0 ∧ fsE f l = 0 := by
 unfold fsE at h
 split at h
 ·exact ⟨by assumption, h⟩
 ·exact absurd h (by assumption)
/-- The error and the value of Turn. -/
def tuE (a b c d : Int) : Int := fsE diP [(a, b), (c, d)]
def tuV (a b c d : Int) : Int := if tuE a b c d = 0 then angV a b c d else 0
/-- The error and the value of Sector. -/
def seE (a b c d e f : Int) : Int := fsE diP [(a, b), (c, d), (e, f)]
def seB (a b c d e f : Int) : Bool := if seE a b c d e f = 0 then scV a b c d e f else false
theorem ang_wraps {a b c d : Int} (h : Nk 2147483648 a ∧ Nk 2147483648 b) (g : Nk 2147483648 c ∧ Nk 2147483648 d) : I6 (c * b) ∧ I6 (d * a) := ⟨nk_prod g.1 h.2, nk_prod g.2 h.1⟩
/-- What gridSide reckons. -/
def G3 (ax ay bx by' cx cy : Int) : Prop := (I6 (bx - ax) ∧ I6 (by' - ay)) ∧ (I6 (cx - ax) ∧ I6 (cy - ay)) ∧ I6 ((bx - ax) * (cy - ay)) ∧ I6 ((by' - ay) * (cx - ax))
def vdP (p : Int × Int) : Int := if (-1073741824 ≤ p.1 ∧ -1073741824 ≤ p.2) ∧ (p.1 ≤ 1073741824 ∧ p.2 ≤ 1073741824) then 0 else 5
theorem vd_nk {p : Int × Int} (h : vdP p = 0) : Nk 1073741824 p.1 ∧ Nk 1073741824 p.2 := by
 unfold vdP at h
 split at h
 ·rename_i h1; exact ⟨⟨by omega, by omega⟩, by omega, by omega⟩
 ·exact absurd h (by decide)
theorem nk_diff {x y : Int} (h : Nk 1073741824 x) (g : Nk 1073741824 y) : Nk 2147483648 (x - y) := nk_sub h g
theorem nk_i {x : Int} (h : Nk 2147483648 x) : I6 x := nk_i6 h (by decide)
theorem g3_ok {ax ay bx by' cx cy : Int} (ha : Nk 1073741824 ax ∧ Nk 1073741824 ay) (hb : Nk 1073741824 bx ∧ Nk 1073741824 by') (hc : Nk 1073741824 cx ∧ Nk 1073741824 cy) : G3 ax ay bx by' cx cy :=
 ⟨⟨nk_i (nk_diff hb.1 ha.1), nk_i (nk_diff hb.2 ha.2)⟩, ⟨nk_i (nk_diff hc.1 ha.1), nk_i (nk_diff hc.2 ha.2)⟩, nk_prod (nk_diff hb.1 ha.1) (nk_diff hc.2 ha.2), nk_prod (nk_diff hb.2 ha.2) (nk_diff hc.1 ha.1)⟩
/-- The error and the value of SideOf. -/
def soE (ax ay bx by' cx cy : Int) : Int := fsE vdP [(ax, ay), (bx, by'), (cx, cy)]
def soV (ax ay bx by' cx cy : Int) : Int := if soE ax ay bx by' cx cy = 0 then sdV ax ay bx by' cx cy else 0
end Go.Proofs.Ytdamadkhbeonaaa
