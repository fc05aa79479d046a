/- Contracts of the program's fractions: isOne, Num, Den, lowest, divided. Conditions: as each statement has them. -/
import Derived.Test.YtbhnaffbgggabaaGreatB6
namespace Go.Proofs.YtbhnaffbgggabaaGreat
open Go.RowKit
attribute [local go_sem ↓] Go.wp_at_zero Go.wp_at_succ
/-- Block b is just four cells, none frozen. -/
def P4 (t : TypeId) (w : World) (b : Nat) (v0 v1 v2 v3 : Value) : Prop := w.heap[b]? = some (.cells #[v0, v1, v2, v3] t (0, 0))
section
variable {t : TypeId} {w w' : World} {b : Nat} {v0 v1 v2 v3 : Value}
theorem P4.lt (h : P4 t w b v0 v1 v2 v3) : b < w.heap.size := (Array.getElem?_eq_some_iff.1 h).1
theorem P4.cells (h : P4 t w b v0 v1 v2 v3) : w.cell? ⟨b, 0, none⟩ = some v0 ∧ w.cell? ⟨b, 1, none⟩ = some v1 ∧ w.cell? ⟨b, 2, none⟩ = some v2 ∧ w.cell? ⟨b, 3, none⟩ = some v3 := by
 unfold P4 at h
 refine ⟨?_, ?_, ?_, ?_⟩ <;> simp [World.cell?, h]
theorem P4.frozen (h : P4 t w b v0 v1 v2 v3) (i : Nat) : w.frozen? ⟨b, i, none⟩ = false := by
 unfold P4 at h
 simp [World.frozen?, h]
theorem P4.new (h : P4 t w b v0 v1 v2 v3) (hb : Below w.heap.size w w') : P4 t w' b v0 v1 v2 v3 := (hb.block b h.lt).trans h
theorem P4.far (h : P4 t w b v0 v1 v2 v3) {p : Addr} (hp : b ≠ p.block) (u : Value) : P4 t (w.setCell p u) b v0 v1 v2 v3 := (Below.heap_setCell w p u b hp).trans h
theorem P4.all (h : P4 t w b v0 v1 v2 v3) (u0 u1 u2 u3 : Value) : P4 t ((((w.setCell ⟨b, 0, none⟩ u0).setCell ⟨b, 1, none⟩ u1).setCell ⟨b, 2, none⟩ u2).setCell ⟨b, 3, none⟩ u3) b u0 u1 u2 u3 := by
 unfold P4 at h ⊢
 simp [World.setCell, Array.getElem?_modify, h]
theorem P4.far2 (h : P4 t w b v0 v1 v2 v3) {g : Nat} (hg : b ≠ g) (u0 u1 : Value) : P4 t ((w.setCell ⟨g, 0, none⟩ u0).setCell ⟨g, 1, none⟩ u1) b v0 v1 v2 v3 := (h.far (p := ⟨g, 0, none⟩) hg u0).far (p := ⟨g, 1, none⟩) hg u1
theorem P4.far4 (h : P4 t w b v0 v1 v2 v3) {g : Nat} (hg : b ≠ g) (u0 u1 u2 u3 : Value) : P4 t ((((w.setCell ⟨g, 0, none⟩ u0).setCell ⟨g, 1, none⟩ u1).setCell ⟨g, 2, none⟩ u2).setCell ⟨g, 3, none⟩ u3) b v0 v1 v2 v3 := (((h.far (p := ⟨g, 0, none⟩) hg u0).far (p := ⟨g, 1, none⟩) hg u1).far (p := ⟨g, 2, none⟩) hg u2).far (p := ⟨g, 3, none⟩) hg u3
theorem P2.far4 {x0 x1 : Value} (h : P2 t w b x0 x1) {g : Nat} (hg : b ≠ g) (u0 u1 u2 u3 : Value) : P2 t ((((w.setCell ⟨g, 0, none⟩ u0).setCell ⟨g, 1, none⟩ u1).setCell ⟨g, 2, none⟩ u2).setCell ⟨g, 3, none⟩ u3) b x0 x1 := (((h.far (p := ⟨g, 0, none⟩) hg u0).far (p := ⟨g, 1, none⟩) hg u1).far (p := ⟨g, 2, none⟩) hg u2).far (p := ⟨g, 3, none⟩) hg u3
theorem P4.lit (w : World) (t : TypeId) (v0 v1 v2 v3 : Value) : P4 t (w.alloc (.cells #[v0, v1, v2, v3] t)) w.heap.size v0 v1 v2 v3 := heap_alloc_new w _
theorem P4.no_int (h : P4 t w b v0 v1 v2 v3) (h0 : isI v0 = false) (h1 : isI v1 = false) (h2 : isI v2 = false) (h3 : isI v3 = false) (o : Nat) (k : IntKind) (x : Int) : w.cell? ⟨b, o, none⟩ ≠ some (.int k x) := by
 unfold P4 at h
 rw [cell_of_row w b o _ t (0, 0) h]
 match o with
 | 0 => intro e; injection e with e; subst e; cases h0
 | 1 => intro e; injection e with e; subst e; cases h1
 | 2 => intro e; injection e with e; subst e; cases h2
 | 3 => intro e; injection e with e; subst e; cases h3
 | o + 4 => simp
end
theorem LO.box4 {k : IntKind} {ok : Nat → Prop} {t : TypeId} {w : World} {v v0 v1 v2 v3 : Value} {l : List Nat} {b : Nat} (h : LO k ok w v l) (hp : P4 t w b v0 v1 v2 v3) (h0 : isI v0 = false) (h1 : isI v1 = false) (h2 : isI v2 = false) (h3 : isI v3 = false) (u0 u1 u2 u3 : Value) : LO k ok ((((w.setCell ⟨b, 0, none⟩ u0).setCell ⟨b, 1, none⟩ u1).setCell ⟨b, 2, none⟩ u2).setCell ⟨b, 3, none⟩ u3) v l :=
 h.apart (tt := (· = b)) (((((Kp.refl (· = b) w).setCell (p := ⟨b, 0, none⟩) (fun _ => rfl) u0).setCell (p := ⟨b, 1, none⟩) (fun _ => rfl) u1).setCell (p := ⟨b, 2, none⟩) (fun _ => rfl) u2).setCell (p := ⟨b, 3, none⟩) (fun _ => rfl) u3) (fun g e _ o x => by subst e; exact hp.no_int h0 h1 h2 h3 o k x)
theorem PIo.box4 {ok : Nat → Prop} {w : World} {s : Bool} {A : Option Addr} {n c : Nat} {x : Int} {t : TypeId} {b : Nat} {v0 v1 v2 v3 : Value} (h : PIo ok w s A n c x) (hp : P4 t w b v0 v1 v2 v3) (h0 : isI v0 = false) (h1 : isI v1 = false) (h2 : isI v2 = false) (h3 : isI v3 = false) (u0 u1 u2 u3 : Value) : PIo ok ((((w.setCell ⟨b, 0, none⟩ u0).setCell ⟨b, 1, none⟩ u1).setCell ⟨b, 2, none⟩ u2).setCell ⟨b, 3, none⟩ u3) s A n c x := ⟨h.1, h.2.1, h.2.2.box4 hp h0 h1 h2 h3 u0 u1 u2 u3⟩
theorem below_box4 {w0 w : World} {B b : Nat} (h : Below B w0 w) (hb : B ≤ b) (u0 u1 u2 u3 : Value) : Below B w0 ((((w.setCell ⟨b, 0, none⟩ u0).setCell ⟨b, 1, none⟩ u1).setCell ⟨b, 2, none⟩ u2).setCell ⟨b, 3, none⟩ u3) :=
 (((h.setCell (p := ⟨b, 0, none⟩) hb u0).setCell (p := ⟨b, 1, none⟩) hb u1).setCell (p := ⟨b, 2, none⟩) hb u2).setCell (p := ⟨b, 3, none⟩) hb u3
/-- The denominator as it is kept: 0 for 1. -/
def dn (q : Int) : Int := if q = 1 then 0 else q
theorem dn_ne {q : Int} (h : q ≠ 1) : dn q = q := if_neg h
/-- A fraction lies in a value of four cells. -/
def PF (w : World) (s : Bool) (A : Option Addr) (n c : Nat) (s' : Bool) (A' : Option Addr) (n' c' : Nat) (p q : Int) : Prop := PI w s A n c p ∧ PI w s' A' n' c' (dn q)
theorem PF.new {w w' : World} {s s' : Bool} {A A' : Option Addr} {n c n' c' : Nat} {p q : Int} (h : PF w s A n c s' A' n' c' p q) (hb : Below w.heap.size w w') : PF w' s A n c s' A' n' c' p q := ⟨PIo.new h.1 hb, PIo.new h.2 hb⟩
theorem PF.box {w : World} {s s' : Bool} {A A' : Option Addr} {n c n' c' : Nat} {p q : Int} {t : TypeId} {B : Nat} {b0 : Bool} {A0 : Option Addr} {n0 c0 : Nat} (h : PF w s A n c s' A' n' c' p q) (hp : P2 t w B (.bool b0) (.slice A0 n0 c0)) (u0 u1 : Value) : PF ((w.setCell ⟨B, 0, none⟩ u0).setCell ⟨B, 1, none⟩ u1) s A n c s' A' n' c' p q := ⟨PIo.box h.1 hp rfl rfl u0 u1, PIo.box h.2 hp rfl rfl u0 u1⟩
/-- What a function returns that returns a fraction. -/
def RetF (p q : Int) (w : World) (e : Ending) (w' : World) : Prop := ∃ s A n c s' A' n' c', e = .returned (.agg #[.bool s, .slice A n c, .bool s', .slice A' n' c']) ∧ PF w' s A n c s' A' n' c' p q ∧ Below w.heap.size w w'
/-- The same with an error. -/
def RetFE (p q code : Int) (w : World) (e : Ending) (w' : World) : Prop := ∃ s A n c s' A' n' c', e = .returned (.tuple #[.agg #[.bool s, .slice A n c, .bool s', .slice A' n' c'], .int .i64 code]) ∧ PF w' s A n c s' A' n' c' p q ∧ Below w.heap.size w w'
theorem F_size : (Tryz.prog.info? 35).map (·.size) = some 4 := by kernel_rfl
theorem RetF.stored {p q : Int} {w w6 : World} {s s' : Bool} {A A' : Option Addr} {n c n' c' : Nat} {B : Nat} {t : TypeId} {b0 b1 : Bool} {A0 A1 : Option Addr} {n0 c0 n1 c1 : Nat} (h : PF w6 s A n c s' A' n' c' p q) (hp : P4 t w6 B (.bool b0) (.slice A0 n0 c0) (.bool b1) (.slice A1 n1 c1)) (hb : Below w.heap.size w w6) (hB : w.heap.size ≤ B) (u0 u1 u2 u3 : Value) :
  RetF p q w (.returned (.agg #[.bool s, .slice A n c, .bool s', .slice A' n' c'])) ((((w6.setCell ⟨B, 0, none⟩ u0).setCell ⟨B, 1, none⟩ u1).setCell ⟨B, 2, none⟩ u2).setCell ⟨B, 3, none⟩ u3) :=
 ⟨s, A, n, c, s', A', n', c', rfl, ⟨PIo.box4 h.1 hp rfl rfl rfl rfl u0 u1 u2 u3, PIo.box4 h.2 hp rfl rfl rfl rfl u0 u1 u2 u3⟩, below_box4 hb hB u0 u1 u2 u3⟩
theorem RetFE.stored {p q code : Int} {w w6 : World} {s s' : Bool} {A A' : Option Addr} {n c n' c' : Nat} {B : Nat} {t : TypeId} {b0 b1 : Bool} {A0 A1 : Option Addr} {n0 c0 n1 c1 : Nat} (h : PF w6 s A n c s' A' n' c' p q) (hp : P4 t w6 B (.bool b0) (.slice A0 n0 c0) (.bool b1) (.slice A1 n1 c1)) (hb : Below w.heap.size w w6) (hB : w.heap.size ≤ B) (u0 u1 u2 u3 : Value) :
  RetFE p q code w (.returned (.tuple #[.agg #[.bool s, .slice A n c, .bool s', .slice A' n' c'], .int .i64 code])) ((((w6.setCell ⟨B, 0, none⟩ u0).setCell ⟨B, 1, none⟩ u1).setCell ⟨B, 2, none⟩ u2).setCell ⟨B, 3, none⟩ u3) :=
 ⟨s, A, n, c, s', A', n', c', rfl, ⟨PIo.box4 h.1 hp rfl rfl rfl rfl u0 u1 u2 u3, PIo.box4 h.2 hp rfl rfl rfl rfl u0 u1 u2 u3⟩, below_box4 hb hB u0 u1 u2 u3⟩
/-- Is it 1? -/
def oneB (x : Int) : Bool := decide (x = 1)
theorem one_true : oneB 1 = true := rfl
theorem one_false {x : Int} (h : x ≠ 1) : oneB x = false := decide_eq_false h
theorem sm_one (x : Int) : (smV x = 1 ∧ x = 1) ∨ (smV x ≠ 1 ∧ x ≠ 1) := by
 unfold smV isSm
 by_cases h : x = 1
 ·subst h; exact .inl ⟨rfl, rfl⟩
 ·refine .inr ⟨?_, h⟩
  split <;> omega
set_option maxRecDepth 100000 in
set_option maxHeartbeats 1600000 in
theorem isone_any (x : Int) (s : Bool) (A : Option Addr) (n c : Nat) (w : World) (hx : PI w s A n c x) (hn : n ≤ 900000) :
  Calls Tryz.prog 123 #[.agg #[.bool s, .slice A n c]] w fun e w' => e = .returned (.bool (oneB x)) ∧ Below w.heap.size w w' := by
 have hb0 := (Below.refl w.heap.size w).alloc (Nat.le_refl _) (.cells #[.bool s, .slice A n c] 33)
 have HB := hJ hb0
 have HX := hJ (PIo.new hx hb0)
 have HO := hJ (sm_one x)
 clear hx hb0
 go_enter Tryz.func123, Tryz.ntmps123
 go_wp2_with fail
 refine (psmall_any x s A n c _ HX.out hn).mono ?_
 rintro e w1 ⟨rfl, hb1⟩
 have HB1 := hJ (bt HB.out hb1)
 clear hb1
 have ho := HO.out
 obtain ⟨u, hu⟩ : ∃ u, smV x = u := ⟨_, rfl⟩
 rw [hu] at ho ⊢
 clear hu HO
 rcases ho with ⟨rfl, rfl⟩ | ⟨h1, h2⟩
 ·go_wp2
  go_ret
  exact ⟨rfl, HB1.out⟩
 ·have HE := hJ h2
  have HU := hJ h1
  clear h1 h2
  go_wp2
  go_ret
  exact ⟨by rw [one_false HE.out]; simp [HU.out], HB1.out⟩
theorem cmpI_zz : cmpI 0 0 = 0 := rfl
set_option maxRecDepth 100000 in
set_option maxHeartbeats 1600000 in
theorem num_any (p q : Int) (s s' : Bool) (A A' : Option Addr) (n c n' c' : Nat) (w : World) (hx : PF w s A n c s' A' n' c' p q) :
  Calls Tryz.prog 50 #[.agg #[.bool s, .slice A n c, .bool s', .slice A' n' c']] w (RetP p w) := by
 obtain ⟨W, hW⟩ : ∃ W, (w.alloc (.cells #[.bool s, .slice A n c, .bool s', .slice A' n' c'] 35)).alloc (.cells #[.bool false, .slice none 0 0] 33) = W := ⟨_, rfl⟩
 have HK := hJ (show Below w.heap.size w W by rw [← hW]; exact ((Below.refl _ w).alloc (Nat.le_refl _) _).alloc (by simp) _)
 have HA := hJ (show P4 35 W w.heap.size (.bool s) (.slice A n c) (.bool s') (.slice A' n' c') by rw [← hW]; exact (P4.lit w _ _ _ _ _).new ((Below.refl _ _).alloc (Nat.le_refl _) _))
 have HZ := hJ (show P2 33 W (w.heap.size + 1) (.bool false) (.slice none 0 0) by
  rw [← hW]
  have h0 := P2.lit (w.alloc (.cells #[.bool s, .slice A n c, .bool s', .slice A' n' c'] 35)) 33 (.bool false) (.slice none 0 0)
  rw [World.size_alloc] at h0
  exact h0)
 have HX := hJ (hx.new HK.out)
 clear hx
 obtain ⟨a0, a1, a2, a3⟩ := HA.out.cells
 obtain ⟨z0, z1⟩ := HZ.out.cells
 have f0 := HZ.out.frozen 0
 have f1 := HZ.out.frozen 1
 go_enter Tryz.func50, Tryz.ntmps50
 go_wp2
 exact bodyPost_ret (results_cell_row rfl _ _ _ _ _ _ _ rfl (HZ.out.all (.bool s) (.slice A n c)) Tryz.underlying33 rfl W_size) rfl (RetP.stored HX.out.1 HZ.out rfl rfl HK.out (by omega) _ _)
set_option maxRecDepth 100000 in
set_option maxHeartbeats 1600000 in
theorem den_any (p q : Int) (s s' : Bool) (A A' : Option Addr) (n c n' c' : Nat) (w : World) (hx : PF w s A n c s' A' n' c' p q) (hn : n' ≤ 900000) (hq : 0 < q) :
  Calls Tryz.prog 51 #[.agg #[.bool s, .slice A n c, .bool s', .slice A' n' c']] w (RetP q w) := by
 obtain ⟨W, hW⟩ : ∃ W, (w.alloc (.cells #[.bool s, .slice A n c, .bool s', .slice A' n' c'] 35)).alloc (.cells #[.bool false, .slice none 0 0] 33) = W := ⟨_, rfl⟩
 have HK := hJ (show Below w.heap.size w W by rw [← hW]; exact ((Below.refl _ w).alloc (Nat.le_refl _) _).alloc (by simp) _)
 have HA := hJ (show P4 35 W w.heap.size (.bool s) (.slice A n c) (.bool s') (.slice A' n' c') by rw [← hW]; exact (P4.lit w _ _ _ _ _).new ((Below.refl _ _).alloc (Nat.le_refl _) _))
 have HZ := hJ (show P2 33 W (w.heap.size + 1) (.bool false) (.slice none 0 0) by
  rw [← hW]
  have h0 := P2.lit (w.alloc (.cells #[.bool s, .slice A n c, .bool s', .slice A' n' c'] 35)) 33 (.bool false) (.slice none 0 0)
  rw [World.size_alloc] at h0
  exact h0)
 have HX := hJ (hx.new HK.out).2
 have HQ := hJ hq
 clear hx hq
 obtain ⟨a0, a1, a2, a3⟩ := HA.out.cells
 by_cases h1 : q = 1
 ·have HE := hJ h1
  have HX0 := hJ (PIo.eq HX.out (show dn q = 0 by rw [h1]; rfl))
  clear h1
  go_enter Tryz.func51, Tryz.ntmps51
  go_wp2_with fail
  refine (sign_any 0 s' A' n' c' W HX0.out hn).mono ?_
  rw [cmpI_zz]
  rintro e w1 ⟨rfl, hb1⟩
  have HB1 := hJ (bt HK.out hb1)
  have HZ1 := hJ (HZ.out.new hb1)
  clear hb1 a0 a1 a2 a3
  go_wp2_with fail
  refine (from_any 1 w1 (by decide)).mono ?_
  rintro e w2 ⟨s2, A2, n2, c2, rfl, hr2, hb2⟩
  have HR2 := hJ (PIo.eq hr2 HE.out.symm)
  have HB2 := hJ (bt HB1.out hb2)
  have HZ2 := hJ (HZ1.out.new hb2)
  clear hr2 hb2
  obtain ⟨z0, z1⟩ := HZ2.out.cells
  have f0 := HZ2.out.frozen 0
  have f1 := HZ2.out.frozen 1
  go_wp2
  exact bodyPost_ret (results_cell_row rfl _ _ _ _ _ _ _ rfl (HZ2.out.all (.bool s2) (.slice A2 n2 c2)) Tryz.underlying33 rfl W_size) rfl (RetP.stored HR2.out HZ2.out rfl rfl HB2.out (by omega) _ _)
 ·have HXq := hJ (PIo.eq HX.out (dn_ne h1))
  have HC := hJ (cmpI_zero (y := q) (by have := HQ.out; omega))
  clear h1
  go_enter Tryz.func51, Tryz.ntmps51
  go_wp2_with fail
  refine (sign_any q s' A' n' c' W HXq.out hn).mono ?_
  obtain ⟨u, hu⟩ : ∃ u, cmpI q 0 = u := ⟨_, rfl⟩
  rw [hu] at HC ⊢
  have hc := HC.out
  rintro e w1 ⟨rfl, hb1⟩
  have HB1 := hJ (bt HK.out hb1)
  have HZ1 := hJ (HZ.out.new hb1)
  have HA1 := hJ (HA.out.new hb1)
  have HX1 := hJ (PIo.new HXq.out hb1)
  clear hb1 a0 a1 a2 a3 hu HC
  obtain ⟨a0, a1, a2, a3⟩ := HA1.out.cells
  obtain ⟨z0, z1⟩ := HZ1.out.cells
  have f0 := HZ1.out.frozen 0
  have f1 := HZ1.out.frozen 1
  go_wp2
  exact bodyPost_ret (results_cell_row rfl _ _ _ _ _ _ _ rfl (HZ1.out.all (.bool s') (.slice A' n' c')) Tryz.underlying33 rfl W_size) rfl (RetP.stored HX1.out HZ1.out rfl rfl HB1.out (by omega) _ _)
end Go.Proofs.YtbhnaffbgggabaaGreat
