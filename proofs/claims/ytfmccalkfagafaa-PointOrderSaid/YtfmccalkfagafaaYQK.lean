/- Lists of points in memory; the program against the reference: Whole, Round. -/
import Derived.Test.YtfmccalkfagafaaYQF
import Derived.Test.YtfmccalkfagafaaYPQ
namespace Go.Proofs.Ytfmccalkfagafaa
open Go.RowKit
attribute [local go_sem ↓] Go.wp_at_zero Go.wp_at_succ
/-- Block b is just these cells, none frozen. -/
def BK (t : TypeId) (w : World) (b : Nat) (cs : Array Value) : Prop := w.heap[b]? = some (.cells cs t (0, 0))
theorem BK.lit (w : World) (t : TypeId) (cs : Array Value) : BK t (w.alloc (.cells cs t)) w.heap.size cs := heap_alloc_new w _
theorem BK.lt {t : TypeId} {w : World} {b : Nat} {cs : Array Value} (h : BK t w b cs) : b < w.heap.size := (Array.getElem?_eq_some_iff.1 h).1
theorem BK.new {t : TypeId} {w w' : World} {b : Nat} {cs : Array Value} (h : BK t w b cs) (hb : Below w.heap.size w w') : BK t w' b cs := (hb.block b h.lt).trans h
/-- Not too great. -/
def Md (x y d : Int) : Prop := (0 < d ∧ d ≤ 1000) ∧ (-34359738368 ≤ x ∧ x ≤ 34359738368) ∧ (-34359738368 ≤ y ∧ y ≤ 34359738368)
theorem md_of {x y d X Y D : Int} (h : MkR x y d X Y D) (hD : 0 < D) (hm : Md x y d) : Md X Y D := by
  obtain ⟨g, hg, rfl, rfl, rfl, _⟩ := h
  obtain ⟨⟨m1, m2⟩, ⟨m3, m4⟩, m5, m6⟩ := hm
  have h1 := mul_abs_le (X := X) hg
  have h2 := mul_abs_le (X := Y) hg
  have h3 := mul_abs_le (X := D) hg
  exact ⟨⟨hD, by omega⟩, ⟨by omega, by omega⟩, by omega, by omega⟩
theorem md_wf {x y d : Int} (h : Md x y d) : (Lit.int .i64 x).wf = true ∧ (Lit.int .i64 y).wf = true ∧ (Lit.int .i64 d).wf = true := by
  obtain ⟨⟨m1, m2⟩, ⟨m3, m4⟩, m5, m6⟩ := h
  exact ⟨WalkArith.wf_i64 (by omega), WalkArith.wf_i64 (by omega), WalkArith.wf_i64 (by omega)⟩
theorem md_lims {x y d : Int} (h : Md x y d) : (0 < mkQ x d ∧ (mkP x d).natAbs < lim ∧ (mkQ x d).natAbs < lim) ∧ (0 < mkQ y d ∧ (mkP y d).natAbs < lim ∧ (mkQ y d).natAbs < lim) := by
  obtain ⟨w1, w2, w3⟩ := md_wf h
  exact ⟨⟨mkQ_pos, mkPQ_lim (i64_lim w1) (i64_lim w3)⟩, mkQ_pos, mkPQ_lim (i64_lim w2) (i64_lim w3)⟩
theorem ne_cl {x d : Int} (hd : 0 < d) : neV (mkP x d) (mkQ x d) = max (-1073741825) (min 1073741825 (nrV x d)) := by
  unfold neV nrV
  rw [near_mk hd]
/-- Round of the program is that of the reference. -/
theorem rd_rr {X Y D : Int} (hd : 0 < D) : rdX (mkP X D) (mkQ X D) (mkP Y D) (mkQ Y D) = rrX X Y D ∧ rdY (mkP X D) (mkQ X D) (mkP Y D) (mkQ Y D) = rrY X Y D ∧ rdE (mkP X D) (mkQ X D) (mkP Y D) (mkQ Y D) = rrC X Y D := by
  have ez : eiC zC (mkP X D) (mkQ X D) (mkP Y D) (mkQ Y D) = 0 := by unfold eiC zC; rfl
  have ea : rdA (mkP X D) (mkQ X D) (mkP Y D) (mkQ Y D) = max (-1073741825) (min 1073741825 (nrV X D)) := by unfold rdA eiA zC; rw [if_pos ⟨rfl, rfl⟩, ne_cl hd]
  have eb : rdB (mkP X D) (mkQ X D) (mkP Y D) (mkQ Y D) = max (-1073741825) (min 1073741825 (nrV Y D)) := by unfold rdB eiB zC; rw [if_pos ⟨rfl, rfl⟩, ne_cl hd]
  have er : rdE (mkP X D) (mkQ X D) (mkP Y D) (mkQ Y D) = vdC (max (-1073741825) (min 1073741825 (nrV X D))) (max (-1073741825) (min 1073741825 (nrV Y D))) := by
    unfold rdE ogC
    rw [ez, ea, eb, if_pos rfl]
  have ex : rdX (mkP X D) (mkQ X D) (mkP Y D) (mkQ Y D) = if vdC (max (-1073741825) (min 1073741825 (nrV X D))) (max (-1073741825) (min 1073741825 (nrV Y D))) = 0 then max (-1073741825) (min 1073741825 (nrV X D)) else 0 := by
    unfold rdX ogV ogC
    rw [ez, ea, eb]
    rfl
  have ey : rdY (mkP X D) (mkQ X D) (mkP Y D) (mkQ Y D) = if vdC (max (-1073741825) (min 1073741825 (nrV X D))) (max (-1073741825) (min 1073741825 (nrV Y D))) = 0 then max (-1073741825) (min 1073741825 (nrV Y D)) else 0 := by
    unfold rdY ogV ogC
    rw [ez, ea, eb]
    rfl
  rw [er, ex, ey]
  clear er ex ey ez ea eb
  have hv : vdC (max (-1073741825) (min 1073741825 (nrV X D))) (max (-1073741825) (min 1073741825 (nrV Y D))) = vdC (nrV X D) (nrV Y D) := by
    obtain ⟨x, hx⟩ : ∃ x, nrV X D = x := ⟨_, rfl⟩
    obtain ⟨y, hy⟩ : ∃ y, nrV Y D = y := ⟨_, rfl⟩
    rw [hx, hy]
    unfold vdC
    by_cases g : (-1073741824 ≤ x ∧ -1073741824 ≤ y) ∧ x ≤ 1073741824 ∧ y ≤ 1073741824
    · rw [if_pos g, if_pos (by omega)]
    · rw [if_neg g, if_neg (by omega)]
  rw [hv]
  by_cases g : vdC (nrV X D) (nrV Y D) = 0
  · have hk : rrK X Y D := g
    have hr : (-1073741824 ≤ nrV X D ∧ -1073741824 ≤ nrV Y D) ∧ nrV X D ≤ 1073741824 ∧ nrV Y D ≤ 1073741824 := by
      refine Classical.byContradiction fun hn => ?_
      unfold vdC at g
      rw [if_neg hn] at g
      exact absurd g (by decide)
    rw [if_pos g, if_pos g]
    unfold rrX rrY
    rw [if_pos hk, if_pos hk]
    exact ⟨by omega, by omega, rfl⟩
  · have hk : ¬ rrK X Y D := g
    rw [if_neg g, if_neg g]
    unfold rrX rrY
    rw [if_neg hk, if_neg hk]
    exact ⟨rfl, rfl, rfl⟩
end Go.Proofs.Ytfmccalkfagafaa
