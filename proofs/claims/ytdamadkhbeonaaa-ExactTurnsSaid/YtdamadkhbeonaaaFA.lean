/- Contracts of the program's fractions: isOne, Num, Den, lowest, divided. Conditions: as each statement has them. -/
import Derived.Test.YtdamadkhbeonaaaB5
namespace Go.Proofs.Ytdamadkhbeonaaa
open Go.RowKit
attribute [local go_sem ↓] Go.wp_at_zero Go.wp_at_succ
/-- Block b is just four cells, none frozen. -/
def P4 (t : TypeId) (w : World) (b : Nat) (v0 v1 v2 v3 : Value) : Prop := w.heap[b]? = some (.cells #[v0, v1, v2, v3] t (0, 0))
section
variable {t : TypeId} {w w' : World} {b : Nat} {v0 v1 v2 v3 : Value}
theorem P4.lt (h : P4 t w b v0 v1 v2 v3) : b < w.heap.size := (Array.getElem?_eq_some_iff.1 h).1
theorem P4.cells (h : P4 t w b v0 v1 v2 v3) : w.cell? ⟨b, 0, none⟩ = some v0 ∧ w.cell? ⟨b, 1, none⟩ = some v1 ∧ w.cell? ⟨b, 2, none⟩ = some v2 ∧ w.cell? ⟨b, 3, none⟩ = some v3 := by
 unfold P4 at h
 refine ⟨?_, ?_, ?_, ?_⟩ <;> simp [World.cell?, h]
theorem P4.frozen (h : P4 t w b v0 v1 v2 v3) (i : Nat) : w.frozen? ⟨b, i, none⟩ = false := by
 unfold P4 at h
 simp [World.frozen?, h]
theorem P4.new (h : P4 t w b v0 v1 v2 v3) (hb : Below w.heap.size w w') : P4 t w' b v0 v1 v2 v3 := (hb.block b h.lt).trans h
theorem P4.far (h : P4 t w b v0 v1 v2 v3) {p : Addr} (hp : b ≠ p.block) (u : Value) : P4 t (w.setCell p u) b v0 v1 v2 v3 := (Below.heap_setCell w p u b hp).trans h
theorem P4.all (h : P4 t w b v0 v1 v2 v3) (u0 u1 u2 u3 : Value) : P4 t ((((w.setCell ⟨b, 0, none⟩ u0).setCell ⟨b, 1, none⟩ u1).setCell ⟨b, 2, none⟩ u2).setCell ⟨b, 3, none⟩ u3) b u0 u1 u2 u3 := by
 unfold P4 at h ⊢
 simp [World.setCell, Array.getElem?_modify, h]
theorem P4.far2 (h : P4 t w b v0 v1 v2 v3) {g : Nat} (hg : b ≠ g) (u0 u1 : Value) : P4 t ((w.setCell ⟨g, 0, none⟩ u0).setCell ⟨g, 1, none⟩ u1) b v0 v1 v2 v3 := (h.far (p := ⟨g, 0, none⟩) hg u0).far (p := ⟨g, 1, none⟩) hg u1
theorem P4.lit (w : World) (t : TypeId) (v0 v1 v2 v3 : Value) : P4 t (w.alloc (.cells #[v0, v1, v2, v3] t)) w.heap.size v0 v1 v2 v3 := heap_alloc_new w _
theorem P4.no_int (h : P4 t w b v0 v1 v2 v3) (h0 : isI v0 = false) (h1 : isI v1 = false) (h2 : isI v2 = false) (h3 : isI v3 = false) (o : Nat) (k : IntKind) (x : Int) : w.cell? ⟨b, o, none⟩ ≠ some (.int k x) := by
 unfold P4 at h
 rw [cell_of_row w b o _ t (0, 0) h]
 match o with
 | 0 => intro e; injection e with e; subst e; cases h0
 | 1 => intro e; injection e with e; subst e; cases h1
 | 2 => intro e; injection e with e; subst e; cases h2
 | 3 => intro e; injection e with e; subst e; cases h3
 | o + 4 => simp
end
theorem LO.box4 {k : IntKind} {ok : Nat → Prop} {t : TypeId} {w : World} {v v0 v1 v2 v3 : Value} {l : List Nat} {b : Nat} (h : LO k ok w v l) (hp : P4 t w b v0 v1 v2 v3) (h0 : isI v0 = false) (h1 : isI v1 = false) (h2 : isI v2 = false) (h3 : isI v3 = false) (u0 u1 u2 u3 : Value) : LO k ok ((((w.setCell ⟨b, 0, none⟩ u0).setCell ⟨b, 1, none⟩ u1).setCell ⟨b, 2, none⟩ u2).setCell ⟨b, 3, none⟩ u3) v l :=
 h.apart (tt := (· = b)) (((((Kp.refl (· = b) w).setCell (p := ⟨b, 0, none⟩) (fun _ => rfl) u0).setCell (p := ⟨b, 1, none⟩) (fun _ => rfl) u1).setCell (p := ⟨b, 2, none⟩) (fun _ => rfl) u2).setCell (p := ⟨b, 3, none⟩) (fun _ => rfl) u3) (fun g e _ o x => by subst e; exact hp.no_int h0 h1 h2 h3 o k x)
theorem PIo.box4 {ok : Nat → Prop} {w : World} {s : Bool} {A : Option Addr} {n c : Nat} {x : Int} {t : TypeId} {b : Nat} {v0 v1 v2 v3 : Value} (h : PIo ok w s A n c x) (hp : P4 t w b v0 v1 v2 v3) (h0 : isI v0 = false) (h1 : isI v1 = false) (h2 : isI v2 = false) (h3 : isI v3 = false) (u0 u1 u2 u3 : Value) : PIo ok ((((w.setCell ⟨b, 0, none⟩ u0).setCell ⟨b, 1, none⟩ u1).setCell ⟨b, 2, none⟩ u2).setCell ⟨b, 3, none⟩ u3) s A n c x := ⟨h.1, h.2.1, h.2.2.box4 hp h0 h1 h2 h3 u0 u1 u2 u3⟩
theorem below_box4 {w0 w : World} {B b : Nat} (h : Below B w0 w) (hb : B ≤ b) (u0 u1 u2 u3 : Value) : Below B w0 ((((w.setCell ⟨b, 0, none⟩ u0).setCell ⟨b, 1, none⟩ u1).setCell ⟨b, 2, none⟩ u2).setCell ⟨b, 3, none⟩ u3) :=
 (((h.setCell (p := ⟨b, 0, none⟩) hb u0).setCell (p := ⟨b, 1, none⟩) hb u1).setCell (p := ⟨b, 2, none⟩) hb u2).setCell (p := ⟨b, 3, none⟩) hb u3
/-- The denominator as it is kept: 0 for 1. -/
def dn (q : Int) : Int := if q = 1 then 0 else q
/-- A fraction lies in a value of four cells. -/
def PF (w : World) (s : Bool) (A : Option Addr) (n c : Nat) (s' : Bool) (A' : Option Addr) (n' c' : Nat) (p q : Int) : Prop := PI w s A n c p ∧ PI w s' A' n' c' (dn q)
theorem PF.new {w w' : World} {s s' : Bool} {A A' : Option Addr} {n c n' c' : Nat} {p q : Int} (h : PF w s A n c s' A' n' c' p q) (hb : Below w.heap.size w w') : PF w' s A n c s' A' n' c' p q := ⟨PIo.new h.1 hb, PIo.new h.2 hb⟩
theorem PF.box {w : World} {s s' : Bool} {A A' : Option Addr} {n c n' c' : Nat} {p q : Int} {t : TypeId} {B : Nat} {b0 : Bool} {A0 : Option Addr} {n0 c0 : Nat} (h : PF w s A n c s' A' n' c' p q) (hp : P2 t w B (.bool b0) (.slice A0 n0 c0)) (u0 u1 : Value) : PF ((w.setCell ⟨B, 0, none⟩ u0).setCell ⟨B, 1, none⟩ u1) s A n c s' A' n' c' p q := ⟨PIo.box h.1 hp rfl rfl u0 u1, PIo.box h.2 hp rfl rfl u0 u1⟩
/-- What a function returns that returns a fraction. -/
def RetF (p q : Int) (w : World) (e : Ending) (w' : World) : Prop := ∃ s A n c s' A' n' c', e = .returned (.agg #[.bool s, .slice A n c, .bool s', .slice A' n' c']) ∧ PF w' s A n c s' A' n' c' p q ∧ Below w.heap.size w w'
/-- The same with an error. -/
def RetFE (p q code : Int) (w : World) (e : Ending) (w' : World) : Prop := ∃ s A n c s' A' n' c', e = .returned (.tuple #[.agg #[.bool s, .slice A n c, .bool s', .slice A' n' c'], .int .i64 code]) ∧ PF w' s A n c s' A' n' c' p q ∧ Below w.heap.size w w'
theorem RetF.stored {p q : Int} {w w6 : World} {s s' : Bool} {A A' : Option Addr} {n c n' c' : Nat} {B : Nat} {t : TypeId} {b0 b1 : Bool} {A0 A1 : Option Addr} {n0 c0 n1 c1 : Nat} (h : PF w6 s A n c s' A' n' c' p q) (hp : P4 t w6 B (.bool b0) (.slice A0 n0 c0) (.bool b1) (.slice A1 n1 c1)) (hb : Below w.heap.size w w6) (hB : w.heap.size ≤ B) (u0 u1 u2 u3 : Value) :
  RetF p q w (.returned (.agg #[.bool s, .slice A n c, .bool s', .slice A' n' c'])) ((((w6.setCell ⟨B, 0, none⟩ u0).setCell ⟨B, 1, none⟩ u1).setCell ⟨B, 2, none⟩ u2).setCell ⟨B, 3, none⟩ u3) :=
 ⟨s, A, n, c, s', A', n', c', rfl, ⟨PIo.box4 h.1 hp rfl rfl rfl rfl u0 u1 u2 u3, PIo.box4 h.2 hp rfl rfl rfl rfl u0 u1 u2 u3⟩, below_box4 hb hB u0 u1 u2 u3⟩
theorem RetFE.stored {p q code : Int} {w w6 : World} {s s' : Bool} {A A' : Option Addr} {n c n' c' : Nat} {B : Nat} {t : TypeId} {b0 b1 : Bool} {A0 A1 : Option Addr} {n0 c0 n1 c1 : Nat} (h : PF w6 s A n c s' A' n' c' p q) (hp : P4 t w6 B (.bool b0) (.slice A0 n0 c0) (.bool b1) (.slice A1 n1 c1)) (hb : Below w.heap.size w w6) (hB : w.heap.size ≤ B) (u0 u1 u2 u3 : Value) :
  RetFE p q code w (.returned (.tuple #[.agg #[.bool s, .slice A n c, .bool s', .slice A' n' c'], .int .i64 code])) ((((w6.setCell ⟨B, 0, none⟩ u0).setCell ⟨B, 1, none⟩ u1).setCell ⟨B, 2, none⟩ u2).setCell ⟨B, 3, none⟩ u3) :=
 ⟨s, A, n, c, s', A', n', c', rfl, ⟨PIo.box4 h.1 hp rfl rfl rfl rfl u0 u1 u2 u3, PIo.box4 h.2 hp rfl rfl rfl rfl u0 u1 u2 u3⟩, below_box4 hb hB u0 u1 u2 u3⟩
end Go.Proofs.Ytdamadkhbeonaaa
