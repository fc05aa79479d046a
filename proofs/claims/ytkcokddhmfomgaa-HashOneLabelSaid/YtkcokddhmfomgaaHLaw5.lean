/- The walk of HashOneWord: the law returns true for every input; what lay lies as it lay. -/
import Derived.Test.YtkcokddhmfomgaaHLaw4
import Derived.Deep.RegionHeld3
import Derived.Deep.RegionWith
import Derived.RangeFuncBox
namespace Go.Proofs.Ytkcokddhmfomgaa
open Go.RowKit

theorem mxi_state {ws : List Int} : ∀ {s s' : BitVec 64}, mxi s ws = mxi s' ws → s = s' := by
  induction ws with
  | nil => intro s s' h; exact h
  | cons x r ih => intro s s' h; exact mx_state (ih h)
theorem mxi_append (s : BitVec 64) (a b : List Int) : mxi s (a ++ b) = mxi (mxi s a) b := by simp [mxi]
theorem ofInt_inj {a b : Int} (ha : (Lit.int .i64 a).wf = true) (hb : (Lit.int .i64 b).wf = true) (h : BitVec.ofInt 64 a = BitVec.ofInt 64 b) : a = b := by
  have h1 := bounds_i64 ha
  have h2 := bounds_i64 hb
  have h3 := congrArg BitVec.toNat h
  rw [BitVec.toNat_ofInt, BitVec.toNat_ofInt] at h3
  simp only [Nat.reducePow] at h3
  omega
theorem sumS_mid {s : List UInt8} {pre post : List Int} {x v : Int} (h : sumS s (pre ++ x :: post) = sumS s (pre ++ v :: post)) : BitVec.ofInt 64 x = BitVec.ofInt 64 v := by
  have e3 := mx_state h
  have hl : (pre ++ x :: post).length = (pre ++ v :: post).length := by simp
  rw [hl, mxi_append, mxi_append] at e3
  generalize headS s (pre ++ v :: post).length = hd at e3
  exact mx_word (mxi_state (s := mx (mxi hd pre) (BitVec.ofInt 64 x)) (s' := mx (mxi hd pre) (BitVec.ofInt 64 v)) (ws := post) e3)
theorem split_at (A : List Int) (k : Nat) (v : Int) (hk : k < A.length) : ∃ pre post, A = pre ++ A.getD k 0 :: post ∧ A.set k v = pre ++ v :: post := by
  refine ⟨A.take k, A.drop (k + 1), ?_, List.set_eq_take_append_cons_drop.trans (by rw [if_pos hk])⟩
  rw [List.getD_eq_getElem?_getD, List.getElem?_eq_getElem hk]
  simp
theorem sumS_set (s : List UInt8) (A : List Int) (k : Nat) (v : Int) (hk : k < A.length) (ha : (Lit.int .i64 (A.getD k 0)).wf = true) (hv : (Lit.int .i64 v).wf = true) :
    (toI (sumS s A) == toI (sumS s (A.set k v))) = (A.getD k 0 == v) := by
  obtain ⟨pre, post, e1, e2⟩ := split_at A k v hk
  generalize A.getD k 0 = x at *
  rw [e2, e1]
  by_cases h : x = v
  · rw [h]; simp
  · rw [beq_eq_false_iff_ne.2 h, beq_eq_false_iff_ne]
    exact fun e => h (ofInt_inj ha hv (sumS_mid (toI_inj e)))
end Go.Proofs.Ytkcokddhmfomgaa
