/- Contracts of the reference's integers. Conditions: as each statement has them. -/
import Derived.WalkKit
import Derived.Outline
import Derived.WalkSpells
import Derived.WalkLawsBesides
import Derived.LoopTactic
import Derived.Deep.QuietTactic
import Derived.BigQuiet
import Derived.Test.YtdamadkhbeonaaaProg
import Derived.Test.YtdamadkhbeonaaaB1
import Derived.Lib.Hide
import Derived.Deep.RegionHeld3
import Derived.Deep.DrawnRows
import Derived.IntWalk
import Derived.RegionTactic
import Derived.ChangeAlike
namespace Go.Proofs.Ytdamadkhbeonaaa
open Go.RowKit

theorem ret_int {k : IntKind} {a b : Int} (h : a = b) : Ending.returned (.int k a) = .returned (.int k b) := by rw [h]

/-- -1, 0 or 1. -/
def cmpN (a b : Nat) : Int := if a < b then -1 else if b < a then 1 else 0
theorem cmpN_lt {a b : Nat} (h : a < b) : cmpN a b = -1 := by rw [cmpN, if_pos h]
theorem cmpN_gt {a b : Nat} (h : b < a) : cmpN a b = 1 := by rw [cmpN, if_neg (by omega), if_pos h]
theorem cmpN_eq (a : Nat) : cmpN a a = 0 := by rw [cmpN, if_neg (by omega), if_neg (by omega)]
end Go.Proofs.Ytdamadkhbeonaaa

namespace Go.Proofs.Ytdamadkhbeonaaa
open Go.RowKit

def lenOf : Value → Nat
  | .slice _ n _ => n
  | _ => 0
/-- A reference's integer: a sign, and the digits of the absolute value, in a block of the kind ok. -/
def RNo (ok : Nat → Prop) (w : World) (neg : Bool) (A : Option Addr) (n c : Nat) (x : Int) : Prop := (neg = decide (x < 0)) ∧ (digs 10000 x.natAbs).length = n ∧ LO .i64 ok w (.slice A n c) (digs 10000 x.natAbs)
abbrev RN (w : World) (neg : Bool) (A : Option Addr) (n c : Nat) (x : Int) : Prop := RNo (fun _ => True) w neg A n c x
theorem RNo.new {ok : Nat → Prop} {w w' : World} {neg : Bool} {A : Option Addr} {n c : Nat} {x : Int} (h : RNo ok w neg A n c x) (hb : Below w.heap.size w w') : RNo ok w' neg A n c x := ⟨h.1, h.2.1, h.2.2.new hb⟩
theorem RNo.weak {ok : Nat → Prop} {w : World} {neg : Bool} {A : Option Addr} {n c : Nat} {x : Int} (h : RNo ok w neg A n c x) : RN w neg A n c x := ⟨h.1, h.2.1, h.2.2.weak⟩
/-- What a function returns that returns such an integer. -/
def RetNo (ok : Nat → Prop) (x : Int) (w : World) (e : Ending) (w' : World) : Prop := ∃ neg A n c, e = .returned (.agg #[.bool neg, .slice A n c]) ∧ RNo ok w' neg A n c x ∧ Below w.heap.size w w'
def sgn (neg : Bool) (v : Nat) : Int := if neg = true then -(v : Int) else (v : Int)
theorem sgn_abs (neg : Bool) (v : Nat) : (sgn neg v).natAbs = v := by unfold sgn; split <;> omega
theorem sgn_neg (neg : Bool) (v : Nat) : (neg && decide (0 < v)) = decide (sgn neg v < 0) := by
  unfold sgn
  cases neg
  · simp
  · by_cases h : 0 < v
    · simp [h]
    · simp [h]
end Go.Proofs.Ytdamadkhbeonaaa

namespace Go.Proofs.Ytdamadkhbeonaaa
open Go.RowKit

def isI : Value → Bool
  | .int _ _ => true
  | _ => false
/-- Block b is just the two cells v0, v1, none frozen. -/
def P2 (t : TypeId) (w : World) (b : Nat) (v0 v1 : Value) : Prop := w.heap[b]? = some (.cells #[v0, v1] t (0, 0))
section
variable {t : TypeId} {w w' : World} {b : Nat} {v0 v1 : Value}
theorem P2.lt (h : P2 t w b v0 v1) : b < w.heap.size := (Array.getElem?_eq_some_iff.1 h).1
theorem P2.cells (h : P2 t w b v0 v1) : w.cell? ⟨b, 0, none⟩ = some v0 ∧ w.cell? ⟨b, 1, none⟩ = some v1 := by
  unfold P2 at h
  refine ⟨?_, ?_⟩ <;> simp [World.cell?, h]
theorem P2.frozen (h : P2 t w b v0 v1) (i : Nat) : w.frozen? ⟨b, i, none⟩ = false := by
  unfold P2 at h
  simp [World.frozen?, h]
theorem P2.kp {tt : Nat → Prop} (h : P2 t w b v0 v1) (hk : Kp tt w w') (ht : ¬ tt b) : P2 t w' b v0 v1 := (hk.block b h.lt ht).trans h
theorem P2.new (h : P2 t w b v0 v1) (hb : Below w.heap.size w w') : P2 t w' b v0 v1 := (hb.block b h.lt).trans h
theorem P2.far (h : P2 t w b v0 v1) {p : Addr} (hp : b ≠ p.block) (u : Value) : P2 t (w.setCell p u) b v0 v1 := (Below.heap_setCell w p u b hp).trans h
theorem P2.all (h : P2 t w b v0 v1) (u0 u1 : Value) : P2 t ((w.setCell ⟨b, 0, none⟩ u0).setCell ⟨b, 1, none⟩ u1) b u0 u1 := by
  unfold P2 at h ⊢
  simp [World.setCell, Array.getElem?_modify, h]
theorem P2.far2 (h : P2 t w b v0 v1) {g : Nat} (hg : b ≠ g) (u0 u1 : Value) : P2 t ((w.setCell ⟨g, 0, none⟩ u0).setCell ⟨g, 1, none⟩ u1) b v0 v1 := (h.far (p := ⟨g, 0, none⟩) hg u0).far (p := ⟨g, 1, none⟩) hg u1
theorem P2.alloc (h : P2 t w b v0 v1) (o : Obj) : P2 t (w.alloc o) b v0 v1 := (Below.heap_alloc w o b h.lt).trans h
theorem P2.lit (w : World) (t : TypeId) (v0 v1 : Value) : P2 t (w.alloc (.cells #[v0, v1] t)) w.heap.size v0 v1 := heap_alloc_new w _
theorem P2.no_int (h : P2 t w b v0 v1) (h0 : isI v0 = false) (h1 : isI v1 = false) (o : Nat) (k : IntKind) (x : Int) : w.cell? ⟨b, o, none⟩ ≠ some (.int k x) := by
  unfold P2 at h
  rw [cell_of_row w b o _ t (0, 0) h]
  match o with
  | 0 => intro e; injection e with e; subst e; cases h0
  | 1 => intro e; injection e with e; subst e; cases h1
  | o + 2 => simp
end
/-- Digits lie on where only a block has turned that holds no such integer. -/
theorem LO.apart {k : IntKind} {ok : Nat → Prop} {w w' : World} {v : Value} {l : List Nat} {tt : Nat → Prop} (h : LO k ok w v l) (hk : Kp tt w w') (hn : ∀ g, tt g → g < w.heap.size → ∀ o x, w.cell? ⟨g, o, none⟩ ≠ some (.int k x)) : LO k ok w' v l := by
  rcases h with h | ⟨b, off, c, h1, h2, ho, h4, h5⟩
  · exact .inl h
  · refine .inr ⟨b, off, c, h1, h2, ho, Nat.lt_of_lt_of_le h4 hk.size, fun j v hj => ?_⟩
    have h6 := h5 j v hj
    refine (hk.cell (p := ⟨b, off + j, none⟩) h4 (fun ht => ?_)).trans h6
    exact hn b ht h4 _ _ h6
theorem LO.box {k : IntKind} {ok : Nat → Prop} {t : TypeId} {w : World} {v v0 v1 : Value} {l : List Nat} {b : Nat} (h : LO k ok w v l) (hp : P2 t w b v0 v1) (h0 : isI v0 = false) (h1 : isI v1 = false) (u0 u1 : Value) : LO k ok ((w.setCell ⟨b, 0, none⟩ u0).setCell ⟨b, 1, none⟩ u1) v l :=
  h.apart (tt := (· = b)) (((Kp.refl (· = b) w).setCell (p := ⟨b, 0, none⟩) (fun _ => rfl) u0).setCell (p := ⟨b, 1, none⟩) (fun _ => rfl) u1) (fun g e _ o x => by subst e; exact hp.no_int h0 h1 o k x)
theorem below_box {w0 w : World} {B b : Nat} (h : Below B w0 w) (hb : B ≤ b) (u0 u1 : Value) : Below B w0 ((w.setCell ⟨b, 0, none⟩ u0).setCell ⟨b, 1, none⟩ u1) :=
  (h.setCell (p := ⟨b, 0, none⟩) hb u0).setCell (p := ⟨b, 1, none⟩) hb u1

/-- One box, and the result's. -/
def W2 (t : TypeId) (w : World) (a0 a1 z0 z1 : Value) : World := (w.alloc (.cells #[a0, a1] t)).alloc (.cells #[z0, z1] t)
/-- Two boxes, and the result's. -/
def W3 (t : TypeId) (w : World) (a0 a1 b0 b1 z0 z1 : Value) : World := ((w.alloc (.cells #[a0, a1] t)).alloc (.cells #[b0, b1] t)).alloc (.cells #[z0, z1] t)
section
variable (t : TypeId) (w : World) (a0 a1 b0 b1 z0 z1 : Value)
theorem W2_a : P2 t (W2 t w a0 a1 z0 z1) w.heap.size a0 a1 := (P2.lit w t a0 a1).alloc _
theorem W2_z : P2 t (W2 t w a0 a1 z0 z1) (w.heap.size + 1) z0 z1 := by
  have := P2.lit (w.alloc (.cells #[a0, a1] t)) t z0 z1
  rw [World.size_alloc] at this
  exact this
theorem W2_k : Below w.heap.size w (W2 t w a0 a1 z0 z1) := ((Below.refl _ w).alloc (Nat.le_refl _) _).alloc (by simp) _
theorem W3_a : P2 t (W3 t w a0 a1 b0 b1 z0 z1) w.heap.size a0 a1 := ((P2.lit w t a0 a1).alloc _).alloc _
theorem W3_b : P2 t (W3 t w a0 a1 b0 b1 z0 z1) (w.heap.size + 1) b0 b1 := by
  have := P2.lit (w.alloc (.cells #[a0, a1] t)) t b0 b1
  rw [World.size_alloc] at this
  exact this.alloc _
theorem W3_z : P2 t (W3 t w a0 a1 b0 b1 z0 z1) (w.heap.size + 1 + 1) z0 z1 := by
  have := P2.lit ((w.alloc (.cells #[a0, a1] t)).alloc (.cells #[b0, b1] t)) t z0 z1
  rw [World.size_alloc, World.size_alloc] at this
  exact this
theorem W3_k : Below w.heap.size w (W3 t w a0 a1 b0 b1 z0 z1) := (((Below.refl _ w).alloc (Nat.le_refl _) _).alloc (by simp) _).alloc (by simp; omega) _
end
end Go.Proofs.Ytdamadkhbeonaaa

namespace Go.Proofs.Ytdamadkhbeonaaa
open Go.RowKit

end Go.Proofs.Ytdamadkhbeonaaa

namespace Go.Proofs.Ytdamadkhbeonaaa
open Go.RowKit
attribute [local go_sem ↓] Go.wp_at_zero Go.wp_at_succ

theorem RNo.stored {ok : Nat → Prop} {x : Int} {w w6 : World} {neg : Bool} {A : Option Addr} {n c B : Nat} {z0 z1 : Value} {t : TypeId} (h : RNo ok w6 neg A n c x) (hp : P2 t w6 B z0 z1) (h0 : isI z0 = false) (h1 : isI z1 = false) (hb : Below w.heap.size w w6) (hB : w.heap.size ≤ B) (u0 u1 : Value) :
    RetNo ok x w (.returned (.agg #[.bool neg, .slice A n c])) ((w6.setCell ⟨B, 0, none⟩ u0).setCell ⟨B, 1, none⟩ u1) :=
  ⟨neg, A, n, c, rfl, ⟨h.1, h.2.1, h.2.2.box hp h0 h1 u0 u1⟩, below_box hb hB u0 u1⟩
theorem RNo.eq {ok : Nat → Prop} {w : World} {neg : Bool} {A : Option Addr} {n c : Nat} {x y : Int} (h : RNo ok w neg A n c x) (e : x = y) : RNo ok w neg A n c y := e ▸ h
theorem sgn_not (x : Int) : sgn (!decide (x < 0)) x.natAbs = -x := by
  unfold sgn
  by_cases h : x < 0
  · simp [h]; omega
  · simp [h]; omega
/-- -1, 0 or 1. -/
def cmpI (a b : Int) : Int := if a < b then -1 else if b < a then 1 else 0
theorem cmpI_np {a b : Int} (ha : a < 0) (hb : ¬ b < 0) : cmpI a b = -1 := by rw [cmpI, if_pos (by omega)]
theorem cmpI_pn {a b : Int} (ha : ¬ a < 0) (hb : b < 0) : cmpI a b = 1 := by rw [cmpI, if_neg (by omega), if_pos (by omega)]
theorem cmpI_nn {a b : Int} (ha : a < 0) (hb : b < 0) : cmpI a b = cmpN b.natAbs a.natAbs := by
  unfold cmpI cmpN
  split <;> split <;> (try split) <;> (try split) <;> omega
theorem cmpI_pp {a b : Int} (ha : ¬ a < 0) (hb : ¬ b < 0) : cmpI a b = cmpN a.natAbs b.natAbs := by
  unfold cmpI cmpN
  split <;> split <;> (try split) <;> (try split) <;> omega
end Go.Proofs.Ytdamadkhbeonaaa

namespace Go.Proofs.Ytdamadkhbeonaaa
open Go.RowKit
attribute [local go_sem ↓] Go.wp_at_zero Go.wp_at_succ

theorem digs_len9 {B : Nat} (hB : 2 ≤ B) {l : List Nat} (h : Dig B l) : (digs B (val B l)).length ≤ l.length := digs_len_le hB (val_lt (by omega) h)
theorem cells4 {t : TypeId} {w : World} {b b' : Nat} {v0 v1 u0 u1 : Value} (h : P2 t w b v0 v1) (h' : P2 t w b' u0 u1) :
    w.cell? ⟨b, 0, none⟩ = some v0 ∧ w.cell? ⟨b, 1, none⟩ = some v1 ∧ w.cell? ⟨b', 0, none⟩ = some u0 ∧ w.cell? ⟨b', 1, none⟩ = some u1 := ⟨h.cells.1, h.cells.2, h'.cells.1, h'.cells.2⟩
theorem add_same {x y : Int} {s : Bool} (hx : s = decide (x < 0)) (hy : s = decide (y < 0)) : sgn s (x.natAbs + y.natAbs) = x + y := by
  subst hx
  unfold sgn
  by_cases h : x < 0 <;> by_cases h' : y < 0 <;> simp [h, h'] at hy ⊢ <;> omega
theorem add_gt {x y : Int} {s s' : Bool} (hx : s = decide (x < 0)) (hy : s' = decide (y < 0)) (hne : s ≠ s') (h : y.natAbs ≤ x.natAbs) : sgn s (x.natAbs - y.natAbs) = x + y := by
  subst hx hy
  unfold sgn
  by_cases h1 : x < 0 <;> by_cases h2 : y < 0 <;> simp [h1, h2] at hne ⊢ <;> omega
theorem add_lt {x y : Int} {s s' : Bool} (hx : s = decide (x < 0)) (hy : s' = decide (y < 0)) (hne : s ≠ s') (h : x.natAbs ≤ y.natAbs) : sgn s' (y.natAbs - x.natAbs) = x + y := by
  subst hx hy
  unfold sgn
  by_cases h1 : x < 0 <;> by_cases h2 : y < 0 <;> simp [h1, h2] at hne ⊢ <;> omega

end Go.Proofs.Ytdamadkhbeonaaa

namespace Go.Proofs.Ytdamadkhbeonaaa
open Go.RowKit
attribute [local go_sem ↓] Go.wp_at_zero Go.wp_at_succ

end Go.Proofs.Ytdamadkhbeonaaa

namespace Go.Proofs.Ytdamadkhbeonaaa
open Go.RowKit
attribute [local go_sem ↓] Go.wp_at_zero Go.wp_at_succ

theorem mul_sign {x y : Int} {s s' : Bool} (hx : s = decide (x < 0)) (hy : s' = decide (y < 0)) : sgn (s != s') (x.natAbs * y.natAbs) = x * y := by
  subst hx hy
  have e := Int.natAbs_mul x y
  rw [← e]
  unfold sgn
  by_cases h1 : x < 0 <;> by_cases h2 : y < 0
  · have := Int.mul_pos_of_neg_of_neg h1 h2
    simp [h1, h2]; omega
  · have := Int.mul_nonpos_of_nonpos_of_nonneg (show x ≤ 0 by omega) (show 0 ≤ y by omega)
    simp [h1, h2]; omega
  · have := Int.mul_nonpos_of_nonneg_of_nonpos (show 0 ≤ x by omega) (show y ≤ 0 by omega)
    simp [h1, h2]; omega
  · have := Int.mul_nonneg (show 0 ≤ x by omega) (show 0 ≤ y by omega)
    simp [h1, h2]; omega
end Go.Proofs.Ytdamadkhbeonaaa

namespace Go.Proofs.Ytdamadkhbeonaaa
open Go.RowKit
attribute [local go_sem ↓] Go.wp_at_zero Go.wp_at_succ

end Go.Proofs.Ytdamadkhbeonaaa

namespace Go.Proofs.Ytdamadkhbeonaaa
open Go.RowKit
attribute [local go_sem ↓] Go.wp_at_zero Go.wp_at_succ

end Go.Proofs.Ytdamadkhbeonaaa

