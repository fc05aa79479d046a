/- Words for a block of two cells that holds a struct of a sign and digits; digits lie elsewhere. -/
import Derived.Test.YtpcliampffeknaaNR2
import Derived.Deep.RegionHeld3
import Derived.Deep.DrawnRows
namespace Go.Proofs.Ytpcliampffeknaa
open Go.RowKit

def isI : Value → Bool
  | .int _ _ => true
  | _ => false
/-- Block b is just the two cells v0, v1, none frozen. -/
def P2 (t : TypeId) (w : World) (b : Nat) (v0 v1 : Value) : Prop := w.heap[b]? = some (.cells #[v0, v1] t (0, 0))
section
variable {t : TypeId} {w w' : World} {b : Nat} {v0 v1 : Value}
theorem P2.lt (h : P2 t w b v0 v1) : b < w.heap.size := (Array.getElem?_eq_some_iff.1 h).1
theorem P2.cells (h : P2 t w b v0 v1) : w.cell? ⟨b, 0, none⟩ = some v0 ∧ w.cell? ⟨b, 1, none⟩ = some v1 := by
  unfold P2 at h
  refine ⟨?_, ?_⟩ <;> simp [World.cell?, h]
theorem P2.frozen (h : P2 t w b v0 v1) (i : Nat) : w.frozen? ⟨b, i, none⟩ = false := by
  unfold P2 at h
  simp [World.frozen?, h]
theorem P2.kp {tt : Nat → Prop} (h : P2 t w b v0 v1) (hk : Kp tt w w') (ht : ¬ tt b) : P2 t w' b v0 v1 := (hk.block b h.lt ht).trans h
theorem P2.new (h : P2 t w b v0 v1) (hb : Below w.heap.size w w') : P2 t w' b v0 v1 := (hb.block b h.lt).trans h
theorem P2.far (h : P2 t w b v0 v1) {p : Addr} (hp : b ≠ p.block) (u : Value) : P2 t (w.setCell p u) b v0 v1 := (Below.heap_setCell w p u b hp).trans h
theorem P2.all (h : P2 t w b v0 v1) (u0 u1 : Value) : P2 t ((w.setCell ⟨b, 0, none⟩ u0).setCell ⟨b, 1, none⟩ u1) b u0 u1 := by
  unfold P2 at h ⊢
  simp [World.setCell, Array.getElem?_modify, h]
theorem P2.far2 (h : P2 t w b v0 v1) {g : Nat} (hg : b ≠ g) (u0 u1 : Value) : P2 t ((w.setCell ⟨g, 0, none⟩ u0).setCell ⟨g, 1, none⟩ u1) b v0 v1 := (h.far (p := ⟨g, 0, none⟩) hg u0).far (p := ⟨g, 1, none⟩) hg u1
theorem P2.alloc (h : P2 t w b v0 v1) (o : Obj) : P2 t (w.alloc o) b v0 v1 := (Below.heap_alloc w o b h.lt).trans h
theorem P2.lit (w : World) (t : TypeId) (v0 v1 : Value) : P2 t (w.alloc (.cells #[v0, v1] t)) w.heap.size v0 v1 := heap_alloc_new w _
theorem P2.no_int (h : P2 t w b v0 v1) (h0 : isI v0 = false) (h1 : isI v1 = false) (o : Nat) (k : IntKind) (x : Int) : w.cell? ⟨b, o, none⟩ ≠ some (.int k x) := by
  unfold P2 at h
  rw [cell_of_row w b o _ t (0, 0) h]
  match o with
  | 0 => intro e; injection e with e; subst e; cases h0
  | 1 => intro e; injection e with e; subst e; cases h1
  | o + 2 => simp
end
/-- Digits lie on where only a block has turned that holds no such integer. -/
theorem LO.apart {k : IntKind} {ok : Nat → Prop} {w w' : World} {v : Value} {l : List Nat} {tt : Nat → Prop} (h : LO k ok w v l) (hk : Kp tt w w') (hn : ∀ g, tt g → g < w.heap.size → ∀ o x, w.cell? ⟨g, o, none⟩ ≠ some (.int k x)) : LO k ok w' v l := by
  rcases h with h | ⟨b, off, c, h1, h2, ho, h4, h5⟩
  · exact .inl h
  · refine .inr ⟨b, off, c, h1, h2, ho, Nat.lt_of_lt_of_le h4 hk.size, fun j v hj => ?_⟩
    have h6 := h5 j v hj
    refine (hk.cell (p := ⟨b, off + j, none⟩) h4 (fun ht => ?_)).trans h6
    exact hn b ht h4 _ _ h6
theorem LO.box {k : IntKind} {ok : Nat → Prop} {t : TypeId} {w : World} {v v0 v1 : Value} {l : List Nat} {b : Nat} (h : LO k ok w v l) (hp : P2 t w b v0 v1) (h0 : isI v0 = false) (h1 : isI v1 = false) (u0 u1 : Value) : LO k ok ((w.setCell ⟨b, 0, none⟩ u0).setCell ⟨b, 1, none⟩ u1) v l :=
  h.apart (tt := (· = b)) (((Kp.refl (· = b) w).setCell (p := ⟨b, 0, none⟩) (fun _ => rfl) u0).setCell (p := ⟨b, 1, none⟩) (fun _ => rfl) u1) (fun g e _ o x => by subst e; exact hp.no_int h0 h1 o k x)
theorem below_box {w0 w : World} {B b : Nat} (h : Below B w0 w) (hb : B ≤ b) (u0 u1 : Value) : Below B w0 ((w.setCell ⟨b, 0, none⟩ u0).setCell ⟨b, 1, none⟩ u1) :=
  (h.setCell (p := ⟨b, 0, none⟩) hb u0).setCell (p := ⟨b, 1, none⟩) hb u1

/-- One box, and the result's. -/
def W2 (t : TypeId) (w : World) (a0 a1 z0 z1 : Value) : World := (w.alloc (.cells #[a0, a1] t)).alloc (.cells #[z0, z1] t)
/-- Two boxes, and the result's. -/
def W3 (t : TypeId) (w : World) (a0 a1 b0 b1 z0 z1 : Value) : World := ((w.alloc (.cells #[a0, a1] t)).alloc (.cells #[b0, b1] t)).alloc (.cells #[z0, z1] t)
section
variable (t : TypeId) (w : World) (a0 a1 b0 b1 z0 z1 : Value)
theorem W2_a : P2 t (W2 t w a0 a1 z0 z1) w.heap.size a0 a1 := (P2.lit w t a0 a1).alloc _
theorem W2_z : P2 t (W2 t w a0 a1 z0 z1) (w.heap.size + 1) z0 z1 := by
  have := P2.lit (w.alloc (.cells #[a0, a1] t)) t z0 z1
  rw [World.size_alloc] at this
  exact this
theorem W2_k : Below w.heap.size w (W2 t w a0 a1 z0 z1) := ((Below.refl _ w).alloc (Nat.le_refl _) _).alloc (by simp) _
theorem W3_a : P2 t (W3 t w a0 a1 b0 b1 z0 z1) w.heap.size a0 a1 := ((P2.lit w t a0 a1).alloc _).alloc _
theorem W3_b : P2 t (W3 t w a0 a1 b0 b1 z0 z1) (w.heap.size + 1) b0 b1 := by
  have := P2.lit (w.alloc (.cells #[a0, a1] t)) t b0 b1
  rw [World.size_alloc] at this
  exact this.alloc _
theorem W3_z : P2 t (W3 t w a0 a1 b0 b1 z0 z1) (w.heap.size + 1 + 1) z0 z1 := by
  have := P2.lit ((w.alloc (.cells #[a0, a1] t)).alloc (.cells #[b0, b1] t)) t z0 z1
  rw [World.size_alloc, World.size_alloc] at this
  exact this
theorem W3_k : Below w.heap.size w (W3 t w a0 a1 b0 b1 z0 z1) := (((Below.refl _ w).alloc (Nat.le_refl _) _).alloc (by simp) _).alloc (by simp; omega) _
end
end Go.Proofs.Ytpcliampffeknaa
