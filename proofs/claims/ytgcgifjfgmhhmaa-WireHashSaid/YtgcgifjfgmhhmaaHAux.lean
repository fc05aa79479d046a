/- Lemmas on words of bytes and on slices that a call has just made, which need none of the reference's functions. -/
import Derived.WalkKit
import Derived.Outline
import Derived.WalkSpells
import Derived.WalkLawsBesides
import Derived.LoopTactic
import Derived.Deep.DeepCutAuto
import Derived.Test.YtgcgifjfgmhhmaaMix
namespace Go.Proofs.Ytgcgifjfgmhhmaa
open Go.RowKit
theorem vs_snoc (k : IntKind) (xs : List Int) (x : Int) : vs k (xs ++ [x]) = vs k xs ++ [.int k x] := by simp [vs]
theorem words_step (l : List UInt8) {j n hi t : Nat} (hn : n = l.length) (hlt : 8 * j < n) (h1 : hi ≤ 8 * j + 8) (h2 : hi ≤ n) (h3 : n ≤ hi ∨ 8 * j + 8 ≤ hi) (ht : 8 * j + t = hi) :
    vs .u64 (wI ((wordsL l).take j)) ++ [.int .u64 (leN ((l.drop (hi - t)).take t) : Int)] = vs .u64 (wI ((wordsL l).take (j + 1))) := by
  rw [wordsL_take_succ l (by omega)]
  have e : hi - t = 8 * j := by omega
  have e2 : leN ((l.drop (hi - t)).take t) = leN ((l.drop (8 * j)).take 8) := by
    rw [e]
    rcases h3 with h3 | h3
    · exact leN_take_all (by rw [List.length_drop]; omega) (by omega)
    · rw [show t = 8 by omega]
  rw [e2, show wI ((wordsL l).take j ++ [wordL (l.drop (8 * j))]) = wI ((wordsL l).take j) ++ [((wordL (l.drop (8 * j))).toNat : Int)] from by simp [wI], vs_snoc, wordL_toNat]
theorem leN_drop_lt (l : List UInt8) (k t : Nat) (ht : t ≤ 7) : leN ((l.drop k).take t) ≤ 72057594037927935 := by
  have h := leN_lt ((l.drop k).take t)
  have h2 : ((l.drop k).take t).length ≤ 7 := by rw [List.length_take]; omega
  have h3 : 256 ^ ((l.drop k).take t).length ≤ 256 ^ 7 := Nat.pow_le_pow_right (by omega) h2
  have : (256 : Nat) ^ 7 = 72057594037927936 := by decide
  omega

theorem wI_get {l : List (BitVec 64)} {j : Nat} (h : j < l.length) : (wI l).getD j 0 = ((l[j]).toNat : Int) := by
  simp [wI, h]
theorem mxs_take_succ {l : List (BitVec 64)} {k : Nat} (s : BitVec 64) (h : k < l.length) : mxs s (l.take (k + 1)) = mx (mxs s (l.take k)) l[k] := by
  rw [List.take_add_one, List.getElem?_eq_getElem h]
  exact mxs_snoc s _ _
theorem mxi_take_succ {l : List Int} {k : Nat} (s : BitVec 64) (h : k < l.length) : mxi s (l.take (k + 1)) = mx (mxi s (l.take k)) (BitVec.ofInt 64 (l.getD k 0)) := by
  rw [List.take_add_one, List.getElem?_eq_getElem h, List.getD_eq_getElem?_getD, List.getElem?_eq_getElem h]
  exact mxi_snoc s _ _

theorem two_new (k : IntKind) (w : World) (t : TypeId) (xs : List Int) : Rd k (w.alloc (.cells (vs k xs).toArray t)) (w.heap.size + 1) (.slice (some ⟨w.heap.size, 0, none⟩) xs.length xs.length) xs := by
  refine .inr ⟨w.heap.size, 0, xs.length, rfl, Nat.le_refl _, Nat.lt_succ_self _, fun j v hj => ?_⟩
  have := heap_alloc_new w (.cells (vs k xs).toArray t)
  have hc := cell_of_row _ w.heap.size (0 + j) (vs k xs).toArray t (0, 0) this
  rw [hc, Nat.zero_add]
  simpa using vs_get hj

theorem toInt_map_snoc (l : List (BitVec 64)) {j : Nat} (h : j < l.length) : (l.take (j + 1)).map (·.toInt) = (l.take j).map (·.toInt) ++ [(l[j]).toInt] := by
  rw [List.take_add_one, List.getElem?_eq_getElem h, List.map_append]; rfl
theorem wrap_toInt (x : BitVec 64) : wrap64 (x.toNat : Int) = x.toInt := by rw [← i64_wrap64, i64_toInt]

end Go.Proofs.Ytgcgifjfgmhhmaa
