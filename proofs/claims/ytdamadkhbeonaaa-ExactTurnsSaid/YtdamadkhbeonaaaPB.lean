/- Contracts of the program's points: Valid, the closure of Of, rational. Conditions: as each statement has them. -/
import Derived.Test.YtdamadkhbeonaaaFI
import Derived.Test.YtdamadkhbeonaaaPA
namespace Go.Proofs.Ytdamadkhbeonaaa
open Go.RowKit
attribute [local go_sem ↓] Go.wp_at_zero Go.wp_at_succ
/-- What Valid returns. -/
def vdC (x y : Int) : Int := if (-1073741824 ≤ x ∧ -1073741824 ≤ y) ∧ (x ≤ 1073741824 ∧ y ≤ 1073741824) then 0 else 5
set_option maxRecDepth 100000 in
set_option maxHeartbeats 1600000 in
theorem valid_any (x y : Int) (w : World) :
  Calls Try.prog 32 #[.agg #[.int .i64 x, .int .i64 y]] w fun e w' => e = .returned (.int .i64 (vdC x y)) ∧ Below w.heap.size w w' := by
 obtain ⟨W, hW⟩ : ∃ W, w.alloc (.cells #[.int .i64 x, .int .i64 y] 25) = W := ⟨_, rfl⟩
 have HK := hJ (show Below w.heap.size w W by rw [← hW]; exact (Below.refl _ w).alloc (Nat.le_refl _) _)
 have HA := hJ (show P2 25 W w.heap.size (.int .i64 x) (.int .i64 y) by rw [← hW]; exact P2.lit _ _ _ _)
 obtain ⟨a0, a1⟩ := HA.out.cells
 go_enter Try.func32, Try.ntmps32
 go_wp2_with fail
 refine (integers_any x y W).mono ?_
 rintro e w1 ⟨rfl, hb1⟩
 have HB1 := hJ (bt HK.out hb1)
 have HA1 := hJ (HA.out.new hb1)
 clear hb1 a0 a1
 go_wp2_with fail
 refine (notgr_any (-1073741824) (-1073741824) x y w1).mono ?_
 rintro e w2 ⟨rfl, hb2⟩
 have HB2 := hJ (bt HB1.out hb2)
 have HA2 := hJ (HA1.out.new hb2)
 clear hb2
 by_cases h1 : -1073741824 ≤ x ∧ -1073741824 ≤ y
 ·rw [decide_eq_true h1]
  have HO1 := hJ h1
  clear h1
  obtain ⟨a0, a1⟩ := HA2.out.cells
  go_wp2_with fail
  refine (integers_any x y w2).mono ?_
  rintro e w3 ⟨rfl, hb3⟩
  have HB3 := hJ (bt HB2.out hb3)
  clear hb3
  go_wp2_with fail
  refine (notgr_any x y 1073741824 1073741824 w3).mono ?_
  rintro e w4 ⟨rfl, hb4⟩
  have HB4 := hJ (bt HB3.out hb4)
  clear hb4
  by_cases h2 : x ≤ 1073741824 ∧ y ≤ 1073741824
  ·rw [decide_eq_true h2]
   have HV := hJ (show vdC x y = 0 from if_pos ⟨HO1.out, h2⟩)
   clear h2
   go_wp2
   go_ret
   exact ⟨by rw [HV.out]; rfl, HB4.out⟩
  ·rw [decide_eq_false h2]
   have HV := hJ (show vdC x y = 5 from if_neg (fun h => h2 h.2))
   clear h2
   go_wp2
   go_ret
   exact ⟨by rw [HV.out]; rfl, HB4.out⟩
 ·rw [decide_eq_false h1]
  have HV := hJ (show vdC x y = 5 from if_neg (fun h => h1 h.1))
  clear h1
  go_wp2
  go_ret
  exact ⟨by rw [HV.out]; rfl, HB2.out⟩
/-- Block b is just eight cells, none frozen. -/
def P8 (t : TypeId) (w : World) (b : Nat) (v0 v1 v2 v3 v4 v5 v6 v7 : Value) : Prop := w.heap[b]? = some (.cells #[v0, v1, v2, v3, v4, v5, v6, v7] t (0, 0))
section
variable {t : TypeId} {w w' : World} {b : Nat} {v0 v1 v2 v3 v4 v5 v6 v7 : Value}
theorem P8.lt (h : P8 t w b v0 v1 v2 v3 v4 v5 v6 v7) : b < w.heap.size := (Array.getElem?_eq_some_iff.1 h).1
theorem P8.cells (h : P8 t w b v0 v1 v2 v3 v4 v5 v6 v7) : (w.cell? ⟨b, 0, none⟩ = some v0 ∧ w.cell? ⟨b, 1, none⟩ = some v1 ∧ w.cell? ⟨b, 2, none⟩ = some v2 ∧ w.cell? ⟨b, 3, none⟩ = some v3) ∧ w.cell? ⟨b, 4, none⟩ = some v4 ∧ w.cell? ⟨b, 5, none⟩ = some v5 ∧ w.cell? ⟨b, 6, none⟩ = some v6 ∧ w.cell? ⟨b, 7, none⟩ = some v7 := by
 unfold P8 at h
 refine ⟨⟨?_, ?_, ?_, ?_⟩, ?_, ?_, ?_, ?_⟩ <;> simp [World.cell?, h]
theorem P8.frozen (h : P8 t w b v0 v1 v2 v3 v4 v5 v6 v7) (i : Nat) : w.frozen? ⟨b, i, none⟩ = false := by
 unfold P8 at h
 simp [World.frozen?, h]
theorem P8.new (h : P8 t w b v0 v1 v2 v3 v4 v5 v6 v7) (hb : Below w.heap.size w w') : P8 t w' b v0 v1 v2 v3 v4 v5 v6 v7 := (hb.block b h.lt).trans h
theorem P8.lit (w : World) (t : TypeId) (v0 v1 v2 v3 v4 v5 v6 v7 : Value) : P8 t (w.alloc (.cells #[v0, v1, v2, v3, v4, v5, v6, v7] t)) w.heap.size v0 v1 v2 v3 v4 v5 v6 v7 := heap_alloc_new w _
theorem P8.far (h : P8 t w b v0 v1 v2 v3 v4 v5 v6 v7) {p : Addr} (hp : b ≠ p.block) (u : Value) : P8 t (w.setCell p u) b v0 v1 v2 v3 v4 v5 v6 v7 := (Below.heap_setCell w p u b hp).trans h
theorem P8.hi (h : P8 t w b v0 v1 v2 v3 v4 v5 v6 v7) (u0 u1 u2 u3 : Value) : P8 t ((((w.setCell ⟨b, 4, none⟩ u0).setCell ⟨b, 5, none⟩ u1).setCell ⟨b, 6, none⟩ u2).setCell ⟨b, 7, none⟩ u3) b v0 v1 v2 v3 u0 u1 u2 u3 := by
 unfold P8 at h ⊢
 simp [World.setCell, Array.getElem?_modify, h]
theorem P8.all (h : P8 t w b v0 v1 v2 v3 v4 v5 v6 v7) (u0 u1 u2 u3 u4 u5 u6 u7 : Value) : P8 t ((((((((w.setCell ⟨b, 0, none⟩ u0).setCell ⟨b, 1, none⟩ u1).setCell ⟨b, 2, none⟩ u2).setCell ⟨b, 3, none⟩ u3).setCell ⟨b, 4, none⟩ u4).setCell ⟨b, 5, none⟩ u5).setCell ⟨b, 6, none⟩ u6).setCell ⟨b, 7, none⟩ u7) b u0 u1 u2 u3 u4 u5 u6 u7 := by
 unfold P8 at h ⊢
 simp [World.setCell, Array.getElem?_modify, h]
end
/-- A block of no words of 32 bits. -/
def NoW (w : World) (b : Nat) : Prop := ∀ o x, w.cell? ⟨b, o, none⟩ ≠ some (.int .u32 x)
theorem PIo.apart {ok : Nat → Prop} {w w' : World} {s : Bool} {A : Option Addr} {n c : Nat} {x : Int} {b : Nat} (h : PIo ok w s A n c x) (hk : Kp (· = b) w w') (hn : NoW w b) : PIo ok w' s A n c x := ⟨h.1, h.2.1, h.2.2.apart hk (fun g e _ o x => by subst e; exact hn o x)⟩
theorem PF.apart {w w' : World} {s s' : Bool} {A A' : Option Addr} {n c n' c' : Nat} {p q : Int} {b : Nat} (h : PF w s A n c s' A' n' c' p q) (hk : Kp (· = b) w w') (hn : NoW w b) : PF w' s A n c s' A' n' c' p q := ⟨PIo.apart h.1 hk hn, PIo.apart h.2 hk hn⟩
end Go.Proofs.Ytdamadkhbeonaaa
