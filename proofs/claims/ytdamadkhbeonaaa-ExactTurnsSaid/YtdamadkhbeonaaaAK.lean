/- Blocks known whole and stores into them; fractions in lowest terms and in range. Conditions: as each statement has them. -/
import Derived.Test.YtdamadkhbeonaaaQM
namespace Go.Proofs.Ytdamadkhbeonaaa
open Go.RowKit
attribute [local go_sem ↓] Go.wp_at_zero Go.wp_at_succ
/-- Block b is just these cells, none frozen. -/
def BX (t : TypeId) (w : World) (b : Nat) (cs : Array Value) : Prop := w.heap[b]? = some (.cells cs t (0, 0))
/-- Cells stored one behind the other. -/
def sto (w : World) (g : Nat) : Nat → List Value → World
 | _, [] => w
 | o, v :: l => sto (w.setCell ⟨g, o, none⟩ v) g (o + 1) l
def putL (cs : Array Value) : Nat → List Value → Array Value
 | _, [] => cs
 | o, v :: l => putL (cs.setIfInBounds o v) (o + 1) l
/-- No integer of this kind. -/
def noI (k : IntKind) (cs : Array Value) : Bool := cs.toList.all fun v => match v with
 | .int k' _ => !decide (k' = k)
 | _ => true
section
variable {t : TypeId} {w w' : World} {b : Nat} {cs : Array Value}
theorem BX.lt (h : BX t w b cs) : b < w.heap.size := (Array.getElem?_eq_some_iff.1 h).1
theorem BX.cell (h : BX t w b cs) (i : Nat) {v : Value} (hv : cs[i]? = some v) : w.cell? ⟨b, i, none⟩ = some v := by
 unfold BX at h
 rw [cell_of_row w b i cs t (0, 0) h, hv]
theorem BX.c2 (h : BX t w b cs) (i j : Nat) {v u : Value} (hv : cs[i]? = some v) (hu : cs[j]? = some u) : w.cell? ⟨b, i, none⟩ = some v ∧ w.cell? ⟨b, j, none⟩ = some u := ⟨h.cell i hv, h.cell j hu⟩
theorem BX.c4 (h : BX t w b cs) (i j k l : Nat) {v u x y : Value} (hv : cs[i]? = some v) (hu : cs[j]? = some u) (hx : cs[k]? = some x) (hy : cs[l]? = some y) : w.cell? ⟨b, i, none⟩ = some v ∧ w.cell? ⟨b, j, none⟩ = some u ∧ w.cell? ⟨b, k, none⟩ = some x ∧ w.cell? ⟨b, l, none⟩ = some y := ⟨h.cell i hv, h.cell j hu, h.cell k hx, h.cell l hy⟩
theorem BX.frozen (h : BX t w b cs) (i : Nat) : w.frozen? ⟨b, i, none⟩ = false := by
 unfold BX at h
 exact frozen_of_row w b i cs t h
theorem BX.new (h : BX t w b cs) (hb : Below w.heap.size w w') : BX t w' b cs := (hb.block b h.lt).trans h
theorem BX.lit (w : World) (t : TypeId) (cs : Array Value) : BX t (w.alloc (.cells cs t)) w.heap.size cs := heap_alloc_new w _
theorem BX.at (e : w.heap.size = b) : BX t (w.alloc (.cells cs t)) b cs := by subst e; exact BX.lit w t cs
theorem BX.alloc (h : BX t w b cs) (o : Obj) : BX t (w.alloc o) b cs := h.new ((Below.refl _ _).alloc (Nat.le_refl _) _)
theorem BX.far1 (h : BX t w b cs) {p : Addr} (hp : b ≠ p.block) (u : Value) : BX t (w.setCell p u) b cs := (Below.heap_setCell w p u b hp).trans h
theorem BX.put1 (h : BX t w b cs) (o : Nat) (u : Value) : BX t (w.setCell ⟨b, o, none⟩ u) b (cs.setIfInBounds o u) := by
 unfold BX at h ⊢
 simp [World.setCell, Array.getElem?_modify, h]
theorem BX.put (h : BX t w b cs) (o : Nat) (vs : List Value) : BX t (sto w b o vs) b (putL cs o vs) := by
 induction vs generalizing o w cs with
 | nil => exact h
 | cons v l ih => exact ih (h.put1 o v) (o + 1)
theorem BX.far (h : BX t w b cs) {g : Nat} (hg : b ≠ g) (o : Nat) (vs : List Value) : BX t (sto w g o vs) b cs := by
 induction vs generalizing o w with
 | nil => exact h
 | cons v l ih => exact ih (h.far1 (p := ⟨g, o, none⟩) hg v) (o + 1)
end
theorem below_sto {w0 w : World} {B g : Nat} (h : Below B w0 w) (hg : B ≤ g) (o : Nat) (vs : List Value) : Below B w0 (sto w g o vs) := by
 induction vs generalizing o w with
 | nil => exact h
 | cons v l ih => exact ih (h.setCell (p := ⟨g, o, none⟩) hg v) (o + 1)
theorem kp_sto {w0 w : World} {g : Nat} (h : Kp (· = g) w0 w) (o : Nat) (vs : List Value) : Kp (· = g) w0 (sto w g o vs) := by
 induction vs generalizing o w with
 | nil => exact h
 | cons v l ih => exact ih (h.setCell (p := ⟨g, o, none⟩) (fun _ => rfl) v) (o + 1)
theorem noI_cell {k : IntKind} {t : TypeId} {w : World} {b : Nat} {cs : Array Value} (h : BX t w b cs) (hn : noI k cs = true) (o : Nat) (x : Int) : w.cell? ⟨b, o, none⟩ ≠ some (.int k x) := by
 intro e
 unfold BX at h
 rw [cell_of_row w b o _ t (0, 0) h] at e
 have hm : Value.int k x ∈ cs.toList := Array.mem_toList_iff.2 (Array.mem_of_getElem? e)
 have := List.all_eq_true.1 hn _ hm
 simp at this
theorem LO.sto {k : IntKind} {ok : Nat → Prop} {t : TypeId} {w : World} {v : Value} {l : List Nat} {b : Nat} {cs : Array Value} (h : LO k ok w v l) (hp : BX t w b cs) (hn : noI k cs = true) (o : Nat) (vs : List Value) : LO k ok (sto w b o vs) v l :=
 h.apart (tt := (· = b)) (kp_sto (Kp.refl _ w) o vs) (fun g e _ o x => by subst e; exact noI_cell hp hn o x)
theorem PIo.sto {ok : Nat → Prop} {w : World} {s : Bool} {A : Option Addr} {n c : Nat} {x : Int} {t : TypeId} {b : Nat} {cs : Array Value} (h : PIo ok w s A n c x) (hp : BX t w b cs) (hn : noI .u32 cs = true) (o : Nat) (vs : List Value) : PIo ok (sto w b o vs) s A n c x := ⟨h.1, h.2.1, h.2.2.sto hp hn o vs⟩
theorem RNo.sto {ok : Nat → Prop} {w : World} {s : Bool} {A : Option Addr} {n c : Nat} {x : Int} {t : TypeId} {b : Nat} {cs : Array Value} (h : RNo ok w s A n c x) (hp : BX t w b cs) (hn : noI .i64 cs = true) (o : Nat) (vs : List Value) : RNo ok (sto w b o vs) s A n c x := ⟨h.1, h.2.1, h.2.2.sto hp hn o vs⟩
theorem PF.sto {w : World} {s s' : Bool} {A A' : Option Addr} {n c n' c' : Nat} {p q : Int} {t : TypeId} {b : Nat} {cs : Array Value} (h : PF w s A n c s' A' n' c' p q) (hp : BX t w b cs) (hn : noI .u32 cs = true) (o : Nat) (vs : List Value) : PF (sto w b o vs) s A n c s' A' n' c' p q := ⟨PIo.sto h.1 hp hn o vs, PIo.sto h.2 hp hn o vs⟩
end Go.Proofs.Ytdamadkhbeonaaa
