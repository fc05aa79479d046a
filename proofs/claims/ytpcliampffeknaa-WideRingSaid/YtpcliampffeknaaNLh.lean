/- Helpers of the walks: rows that came in, bounds of sizes. -/
import Derived.Test.YtpcliampffeknaaNRe
import Derived.Test.YtpcliampffeknaaNRd
import Derived.Deep.RegionHeld3
namespace Go.Proofs.Ytpcliampffeknaa
open Go.RowKit
attribute [local go_sem ↓] Go.wp_at_zero Go.wp_at_succ
theorem src_of_row {k : IntKind} {w : World} {a : Option Addr} {len cap : Nat} {zs : List Int}
    (h : (a = none ∧ len = 0 ∧ cap = 0 ∧ zs = []) ∨ ∃ x, a = some x ∧ len ≤ cap ∧ cap ≤ maxLen ∧ zs.length = cap ∧ (∀ i, i < zs.length → w.cell? (x.add i) = some (.int k (zs.getD i 0))) ∧ ∀ n ∈ zs, (Lit.int k n).wf = true) :
    Src k w (.slice a len cap) (zs.take len) ∧ (zs.take len).length ≤ maxLen ∧ ∀ n ∈ zs.take len, (Lit.int k n).wf = true := by
  rcases h with ⟨rfl, rfl, rfl, rfl⟩ | ⟨x, rfl, h1, h2, h3, h4, h5⟩
  · exact ⟨.inl ⟨rfl, rfl⟩, by simp, fun n hn => by simp at hn⟩
  · have hl : (zs.take len).length = len := by rw [List.length_take]; omega
    refine ⟨.inr ⟨x, cap, by rw [hl], by omega, fun j v hj => ?_⟩, by omega, fun n hn => h5 n (List.mem_of_mem_take hn)⟩
    have hjl : j < zs.length := by have := (List.getElem?_eq_some_iff.1 hj).1; omega
    rw [List.getElem?_take] at hj
    split at hj
    · have := h4 j hjl
      rw [List.getD_eq_getElem?_getD, hj] at this
      exact this
    · cases hj

def RowI (k : IntKind) (w : World) (a : Option Addr) (len cap : Nat) (zs : List Int) : Prop :=
  (a = none ∧ len = 0 ∧ cap = 0 ∧ zs = []) ∨ ∃ x, a = some x ∧ len ≤ cap ∧ cap ≤ maxLen ∧ zs.length = cap ∧ (∀ i, i < zs.length → w.cell? (x.add i) = some (.int k (zs.getD i 0))) ∧ ∀ n ∈ zs, (Lit.int k n).wf = true
theorem RowI.open_ {k : IntKind} {w : World} {a : Option Addr} {len cap : Nat} {zs : List Int} (h : RowI k w a len cap zs) :
    ∃ ls : List Int, ls.length = len ∧ len ≤ maxLen ∧ (∀ x ∈ ls, (Lit.int k x).wf = true) ∧ Src k w (.slice a len cap) ls := by
  obtain ⟨h1, h2, h3⟩ := src_of_row h
  have hl : (zs.take len).length = len := by
    rcases h with ⟨_, rfl, _, rfl⟩ | ⟨x, _, h4, h5, h6, _⟩
    · rfl
    · rw [List.length_take]; omega
  exact ⟨zs.take len, hl, by rw [← hl]; exact h2, h3, h1⟩

theorem two_lim {x : Int} {k : Nat} (h : x.natAbs < 2 ^ k) (hk : k ≤ 32 * limE) : x.natAbs < lim := by
  rw [lim_two]
  exact Nat.lt_of_lt_of_le h (Nat.pow_le_pow_right (by decide) hk)
theorem num_lt {x : Int} (h : x.natAbs < numB) : x.natAbs < 2 ^ 240 := h
theorem num_lim {x : Int} (h : x.natAbs < numB) : x.natAbs < lim := two_lim (num_lt h) (by decide)
theorem mul_two {x y : Int} {j k : Nat} (hx : x.natAbs < 2 ^ j) (hy : y.natAbs < 2 ^ k) : (x * y).natAbs < 2 ^ (j + k) := by
  rw [Int.natAbs_mul, Nat.pow_add]
  exact Nat.mul_lt_mul'' hx hy
theorem pi_len {x : Int} {w : World} {s : Bool} {A : Option Addr} {n c m : Nat} (h : PI w s A n c x) (hx : x.natAbs < 2 ^ m) : n ≤ m := by
  rw [← h.2.1]
  exact digs_len_le (by decide) (Nat.lt_of_lt_of_le hx (Nat.pow_le_pow_left (by decide) m))
theorem sum_two {x y : Int} {k : Nat} (hx : x.natAbs < 2 ^ k) (hy : y.natAbs < 2 ^ k) : (x + y).natAbs < 2 ^ (k + 1) ∧ (x - y).natAbs < 2 ^ (k + 1) := by
  rw [Nat.pow_succ]
  generalize 2 ^ k = B at *
  omega
/-- 2 to a power, never evaluated. -/
def B2 (k : Nat) : Nat := 2 ^ k
theorem numB2 {x : Int} (h : x.natAbs < numB) : x.natAbs < B2 240 := h
theorem B2.le {x : Int} {j k : Nat} (h : x.natAbs < B2 j) (hk : j ≤ k) : x.natAbs < B2 k := Nat.lt_of_lt_of_le h (Nat.pow_le_pow_right (by decide) hk)
theorem B2.mul {x y : Int} {j k : Nat} (hx : x.natAbs < B2 j) (hy : y.natAbs < B2 k) : (x * y).natAbs < B2 (j + k) := mul_two hx hy
theorem B2.add {x y : Int} {k : Nat} (hx : x.natAbs < B2 k) (hy : y.natAbs < B2 k) : (x + y).natAbs < B2 (k + 1) := (sum_two hx hy).1
theorem B2.sub {x y : Int} {k : Nat} (hx : x.natAbs < B2 k) (hy : y.natAbs < B2 k) : (x - y).natAbs < B2 (k + 1) := (sum_two hx hy).2
theorem B2.neg {x : Int} {k : Nat} (hx : x.natAbs < B2 k) : (-x).natAbs < B2 k := by rw [Int.natAbs_neg]; exact hx
theorem B2.lim {x : Int} {k : Nat} (h : x.natAbs < B2 k) (hk : k ≤ 32 * limE) : x.natAbs < lim := two_lim h hk
theorem B2.plen {x : Int} {w : World} {s : Bool} {A : Option Addr} {n c m : Nat} (h : PI w s A n c x) (hx : x.natAbs < B2 m) : n ≤ m := pi_len h hx
theorem B2.rlen {x : Int} {w : World} {s : Bool} {A : Option Addr} {n c m : Nat} (h : RN w s A n c x) (hx : x.natAbs < B2 m) : n ≤ m := rn_len h hx
theorem B2.div {x y : Int} {k : Nat} (h : x.natAbs < B2 k) : (x / y).natAbs < B2 k := Nat.lt_of_le_of_lt (Int.natAbs_ediv_le_natAbs _ _) h
theorem B2.mod {x y : Int} {k : Nat} (h : y ≠ 0) (hy : y.natAbs < B2 k) : (x % y).natAbs < B2 k := by
  have h1 := Int.emod_nonneg x h
  have h2 := Int.emod_lt x h
  omega
theorem nm_world {B : Nat} {a b : World} (_ : Below B a b) : ∃ v, v = b := ⟨b, rfl⟩
theorem cmpI_same {a b : Int} (h : a = b) : cmpI a b = 0 := by subst h; unfold cmpI; rw [if_neg (by omega), if_neg (by omega)]
theorem cmpI_less {a b : Int} (h : a < b) : cmpI a b = -1 := by unfold cmpI; rw [if_pos h]
theorem cmpI_ge {a : Int} (h : 0 ≤ a) : 0 ≤ cmpI a 0 := by unfold cmpI; rw [if_neg (by omega)]; split <;> omega
end Go.Proofs.Ytpcliampffeknaa
