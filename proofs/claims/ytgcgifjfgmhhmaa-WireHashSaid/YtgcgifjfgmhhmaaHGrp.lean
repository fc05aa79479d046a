/- Mathematics: lists of bytes that differ within one group of eight have different hashes. -/
import Derived.Test.YtgcgifjfgmhhmaaHBytes2
namespace Go.Proofs.Ytgcgifjfgmhhmaa
open Go.RowKit
def toI (x : BitVec 64) : Int := (x.toNat : Int)
theorem toI_inj {x y : BitVec 64} (h : toI x = toI y) : x = y := by
  unfold toI at h
  exact BitVec.eq_of_toNat_eq (by omega)
theorem mxi_state {ws : List Int} : ∀ {s s' : BitVec 64}, mxi s ws = mxi s' ws → s = s' := by
  induction ws with
  | nil => intro s s' h; exact h
  | cons x r ih => intro s s' h; exact mx_state (ih h)
theorem mxi_append (s : BitVec 64) (a b : List Int) : mxi s (a ++ b) = mxi (mxi s a) b := by simp [mxi]
theorem sumS_mid {s : List UInt8} {pre post : List Int} {x v : Int} (h : sumS s (pre ++ x :: post) = sumS s (pre ++ v :: post)) : BitVec.ofInt 64 x = BitVec.ofInt 64 v := by
  have e3 := mx_state h
  have hl : (pre ++ x :: post).length = (pre ++ v :: post).length := by simp
  rw [hl, mxi_append, mxi_append] at e3
  generalize headS s (pre ++ v :: post).length = hd at e3
  exact mx_word (mxi_state (s := mx (mxi hd pre) (BitVec.ofInt 64 x)) (s' := mx (mxi hd pre) (BitVec.ofInt 64 v)) (ws := post) e3)
theorem drop_take_eq {X Y : List UInt8} {i : Nat} (h : ∀ t, t < 8 → X[8 * i + t]? = Y[8 * i + t]?) : (X.drop (8 * i)).take 8 = (Y.drop (8 * i)).take 8 := by
  apply List.ext_getElem?
  intro t
  by_cases ht : t < 8
  · rw [List.getElem?_take_of_lt ht, List.getElem?_take_of_lt ht, List.getElem?_drop, List.getElem?_drop]
    exact h t ht
  · rw [List.getElem?_take_eq_none (by omega), List.getElem?_take_eq_none (by omega)]
theorem wordsL_set {X Y : List UInt8} {j : Nat} (hl : X.length = Y.length) (h : ∀ i, i / 8 ≠ j → X[i]? = Y[i]?) : wordsL Y = (wordsL X).set j (wordL (Y.drop (8 * j))) := by
  apply List.ext_getElem
  · rw [List.length_set, wordsL_length, wordsL_length, hl]
  · intro i h1 h2
    rw [List.getElem_set]
    split
    · rename_i e
      subst e
      simp [wordsL]
    · rename_i hne
      simp only [wordsL, List.getElem_map, List.getElem_range, wordL]
      rw [drop_take_eq (X := Y) (Y := X) (i := i) (fun t ht => (h _ (by omega)).symm)]
theorem wordL_inj {X Y : List UInt8} {j : Nat} (hl : X.length = Y.length) (h : wordL (X.drop (8 * j)) = wordL (Y.drop (8 * j))) : (X.drop (8 * j)).take 8 = (Y.drop (8 * j)).take 8 := by
  have e := congrArg BitVec.toNat h
  rw [wordL_toNat, wordL_toNat] at e
  exact leN_inj (by simp [hl]) e
theorem all_eq {X Y : List UInt8} {j : Nat} (h : ∀ i, i / 8 ≠ j → X[i]? = Y[i]?) (hj : (X.drop (8 * j)).take 8 = (Y.drop (8 * j)).take 8) : X = Y := by
  apply List.ext_getElem?
  intro i
  by_cases e : i / 8 = j
  · have hi : i = 8 * j + (i - 8 * j) := by omega
    have ht : i - 8 * j < 8 := by omega
    have h2 := congrArg (·[i - 8 * j]?) hj
    simp only [List.getElem?_take_of_lt ht, List.getElem?_drop] at h2
    rw [← hi] at h2
    exact h2
  · exact h i e
/-- Words that differ at one place are told apart by the states behind them. -/
theorem mxs_mid {pre post : List (BitVec 64)} {x y s : BitVec 64} (h : mxs s (pre ++ x :: post) = mxs s (pre ++ y :: post)) : x = y := by
  have inj : ∀ (post : List (BitVec 64)) (s s' : BitVec 64), mxs s post = mxs s' post → s = s' := by
    intro post
    induction post with
    | nil => intro s s' h; exact h
    | cons z r ih => intro s s' h; exact mx_state (ih _ _ h)
  have h2 : mxs (mx (mxs s pre) x) post = mxs (mx (mxs s pre) y) post := by simpa [mxs] using h
  exact mx_word (inj _ _ _ h2)
theorem split_w (A : List (BitVec 64)) (k : Nat) (v : BitVec 64) (hk : k < A.length) : ∃ pre post, A = pre ++ A[k] :: post ∧ A.set k v = pre ++ v :: post := by
  refine ⟨A.take k, A.drop (k + 1), ?_, List.set_eq_take_append_cons_drop.trans (by rw [if_pos hk])⟩
  simp
theorem bytesS_group (s X Y : List UInt8) {j : Nat} (hl : X.length = Y.length) (hj : 8 * j < X.length) (h : ∀ i, i / 8 ≠ j → X[i]? = Y[i]?) :
    (toI (bytesS s X) == toI (bytesS s Y)) = decide (bI X = bI Y) := by
  have hjw : j < (wordsL X).length := by rw [wordsL_length]; omega
  have hbi : bI X = bI Y ↔ X = Y := by
    constructor
    · intro e
      apply List.ext_getElem hl
      intro i h1 h2
      have := congrArg (·.getD i 0) e
      simp only [bI_get h1, bI_get h2] at this
      exact UInt8.toNat_inj.1 (by omega)
    · intro e; rw [e]
  by_cases e : X = Y
  · rw [e]; simp
  · rw [decide_eq_false (fun h => e (hbi.1 h)), beq_eq_false_iff_ne]
    intro he
    apply e
    have h1 := toI_inj he
    unfold bytesS argsB at h1
    have hw := wordsL_set hl h
    obtain ⟨pre, post, e1, e2⟩ := split_w (wordsL X) j (wordL (Y.drop (8 * j))) hjw
    have hxj : (wordsL X)[j] = wordL (X.drop (8 * j)) := by simp [wordsL]
    rw [hxj] at e1
    rw [hw, e2, e1, hl, List.map_append, List.map_append, List.map_cons, List.map_cons, List.append_assoc, List.append_assoc, List.cons_append, List.cons_append] at h1
    have h2 := sumS_mid h1
    rw [BitVec.ofInt_toInt, BitVec.ofInt_toInt] at h2
    exact all_eq h (wordL_inj hl h2)
end Go.Proofs.Ytgcgifjfgmhhmaa
