/- Words for digits in memory: a slice that reads as a list of naturals; a block that is known whole; making, writing and cutting it. -/
import Derived.Test.YtpcliampffeknaaWMem
import Derived.Test.YtpcliampffeknaaMNum
import Derived.Laws.NewBlocks
namespace Go.Proofs.Ytpcliampffeknaa
open Go.RowKit

def nI (l : List Nat) : List Int := l.map fun (d : Nat) => (d : Int)
theorem nI_len (l : List Nat) : (nI l).length = l.length := by simp [nI]
theorem nI_append (x y : List Nat) : nI (x ++ y) = nI x ++ nI y := by simp [nI]
theorem nI_take (l : List Nat) (i : Nat) : nI (l.take i) = (nI l).take i := by simp [nI]
theorem nI_drop (l : List Nat) (i : Nat) : nI (l.drop i) = (nI l).drop i := by simp [nI]
theorem nI_set (l : List Nat) (i v : Nat) : nI (l.set i v) = (nI l).set i (v : Int) := by simp [nI]
theorem nI_zeros (n : Nat) : nI (List.replicate n 0) = List.replicate n 0 := by simp [nI]
theorem nI_get {l : List Nat} {j : Nat} (h : j < l.length) : (nI l)[j]? = some ((l.getD j 0 : Nat) : Int) := by
  rw [nI, List.getElem?_map, List.getD_eq_getElem?_getD, List.getElem?_eq_getElem h]; rfl
theorem nI_getD {l : List Nat} {j : Nat} (h : j < l.length) : (nI l).getD j 0 = ((l.getD j 0 : Nat) : Int) := by
  rw [List.getD_eq_getElem?_getD, nI_get h]; rfl
theorem getD_drop' (l : List Nat) (i j : Nat) : (l.drop i).getD j 0 = l.getD (i + j) 0 := by
  rw [List.getD_eq_getElem?_getD, List.getElem?_drop, ← List.getD_eq_getElem?_getD]
theorem getD_take' {l : List Nat} {i j : Nat} (h : j < i) : (l.take i).getD j 0 = l.getD j 0 := by
  rw [List.getD_eq_getElem?_getD, List.getElem?_take, if_pos h, ← List.getD_eq_getElem?_getD]
theorem getD_out {l : List Nat} {i : Nat} (h : l.length ≤ i) : l.getD i 0 = 0 := by
  rw [List.getD_eq_getElem?_getD, List.getElem?_eq_none h]; rfl

/-- The slice value reads as the digits l, in a block of the kind ok. -/
def LO (k : IntKind) (ok : Nat → Prop) (w : World) (v : Value) (l : List Nat) : Prop := In k w ok v (nI l)
/-- The slice value reads as the digits l. -/
abbrev LI (k : IntKind) (w : World) (v : Value) (l : List Nat) : Prop := LO k (fun _ => True) w v l
section
variable {k : IntKind} {ok ok' : Nat → Prop} {w w' : World} {v : Value} {l : List Nat} {a : Option Addr} {n c : Nat}
theorem LO.new (h : LO k ok w v l) (hb : Below w.heap.size w w') : LO k ok w' v l := In.new h hb
theorem LO.kp {t : Nat → Prop} (h : LO k ok w v l) (hk : Kp t w w') (ht : ∀ b, b < w.heap.size → ok b → ¬ t b) : LO k ok w' v l := In.kp h hk ht
theorem LO.mono (h : LO k ok w v l) (ho : ∀ b, b < w.heap.size → ok b → ok' b) : LO k ok' w v l := In.mono h ho
theorem LO.weak (h : LO k ok w v l) : LI k w v l := In.mono h fun _ _ _ => trivial
theorem LO.lt (h : LO k ok w v l) : LO k (· < w.heap.size) w v l := In.mono h fun _ h _ => h
theorem LO.alloc (h : LO k ok w v l) (o : Obj) : LO k ok (w.alloc o) v l := h.new ((Below.refl _ w).alloc (Nat.le_refl _) o)
theorem LO.drew (h : LO k ok w v l) : LO k ok w.drew v l := h
theorem LO.nil : LO k ok w (.slice none 0 0) [] := In.nil
theorem LO.len (h : LO k ok w (.slice a n c) l) : l.length = n ∧ n ≤ c := by
  have := In.len h
  rw [nI_len] at this
  exact ⟨this.1.symm, this.2⟩
theorem LO.form (h : LO k ok w v l) : ∃ a c, v = .slice a l.length c := by
  have := In.form h
  rwa [nI_len] at this
theorem LO.at_ (h : LO k ok w (.slice a n c) l) {j : Nat} (hj : j < n) : ∃ b off, a = some ⟨b, off, none⟩ ∧ b < w.heap.size ∧ w.cell? ⟨b, off + j, none⟩ = some (.int k ((l.getD j 0 : Nat) : Int)) := by
  have hl := h.len
  obtain ⟨b, off, h1, _, h2, h3⟩ := In.at_ h (j := j) (by rw [nI_len]; omega)
  rw [nI_getD (by omega)] at h3
  exact ⟨b, off, h1, h2, h3⟩
theorem LO.own {base e : Nat} (h : w.ownsRow base e 1 v n (vs k (nI l))) : LO k (base ≤ ·) w v l := In.own h
theorem LI.own {base e : Nat} (h : w.ownsRow base e 1 v n (vs k (nI l))) : LI k w v l := (LO.own h).weak
/-- s[:j] -/
theorem LO.to_ {P : Program} {ty e : TypeId} (ht : P.underlying ty = some (.slice e)) (hs : ∀ W, (sizeOf e).run P W = .ok 1 W) (h : LO k ok w (.slice a n c) l) (j : Nat) (hj : j ≤ n) (z : Int) (hz : z = (j : Int)) :
    ∃ a', (∀ W, (Instr.slice ty (.slice a n c) none (some (.int .i64 z)) none).run P W = .ok (.slice a' j c) W) ∧ LO k ok w (.slice a' j c) (l.take j) := by
  subst hz
  obtain ⟨a', h1, h2⟩ := In.to_ ht hs h j hj
  exact ⟨a', h1, by unfold LO; rw [nI_take]; exact h2⟩
/-- s[:j] lies where s lies. -/
theorem LO.to_same {P : Program} {ty e : TypeId} (ht : P.underlying ty = some (.slice e)) (hs : ∀ W, (sizeOf e).run P W = .ok 1 W) {b off : Nat} (h : LO k ok w (.slice (some ⟨b, off, none⟩) n c) l) (j : Nat) (hj : j ≤ n) (hc0 : 0 < c) (z : Int) (hz : z = (j : Int)) :
    (∀ W, (Instr.slice ty (.slice (some ⟨b, off, none⟩) n c) none (some (.int .i64 z)) none).run P W = .ok (.slice (some ⟨b, off, none⟩) j c) W) ∧ LO k ok w (.slice (some ⟨b, off, none⟩) j c) (l.take j) := by
  have he : P.elem ty = e := by simp [Program.elem, ht]
  obtain ⟨hn, hc⟩ := In.len h
  have hl := h.len.1
  subst hz
  refine ⟨fun W => ?_, ?_⟩
  · rw [run_slice_h (ht := by rw [ht, he]) (h0 := by omega) (h2 := by omega), he, hs W]
    simp only [Result.andThen, sliced, Int.toNat_natCast, Nat.sub_zero]
    rw [if_neg (by omega), Nat.zero_mul, Option.map_some, Go.WideShapes.add_plain, Nat.add_zero]
  · rcases h with ⟨h, _⟩ | ⟨b', off', c', h1, h2, h3, h4, h5⟩
    · cases h
    · injection h1 with h1 h6 h7
      injection h1 with h1
      injection h1 with h1 h8
      subst h1 h8 h7
      have hlj : (nI (l.take j)).length = j := by rw [nI_len, List.length_take]; omega
      refine .inr ⟨b, off, c, by rw [hlj], by omega, h3, h4, fun i v hi => ?_⟩
      rw [nI_take, List.getElem?_take] at hi
      split at hi
      · exact h5 i v hi
      · cases hi
/-- s[j:] -/
theorem LO.from_ {P : Program} {ty e : TypeId} (ht : P.underlying ty = some (.slice e)) (hs : ∀ W, (sizeOf e).run P W = .ok 1 W) (h : LO k ok w (.slice a n c) l) (j : Nat) (hj : j ≤ n) (z : Int) (hz : z = (j : Int)) :
    ∃ a' c', (∀ W, (Instr.slice ty (.slice a n c) (some (.int .i64 z)) none none).run P W = .ok (.slice a' (n - j) c') W) ∧ LO k ok w (.slice a' (n - j) c') (l.drop j) := by
  obtain ⟨a', c', h1, h2⟩ := In.from_ ht hs h j hj z hz
  exact ⟨a', c', h1, by unfold LO; rw [nI_drop]; exact h2⟩
end
theorem own_lit (k : IntKind) (w : World) (t : TypeId) (xs : List Int) (h : xs.length ≤ maxLen := by decide) : (w.alloc (.cells (vs k xs).toArray t)).ownsRow w.heap.size t 1 (.slice (some ⟨w.heap.size, 0, none⟩) xs.length xs.length) xs.length (vs k xs) :=
  ⟨by rw [vs_length, Nat.mul_one], .inr ⟨w.heap.size, xs.length, _, rfl, Nat.le_refl _, heap_alloc_new w _, Nat.le_refl _, h, by simp [vs], by rw [Nat.mul_one]; exact List.take_of_length_le (by simp [vs])⟩⟩

/-- A block that is known whole: the digits l. -/
def Blk (k : IntKind) (w : World) (g : Nat) (t : TypeId) (l : List Nat) : Prop := w.heap[g]? = some (.cells (vs k (nI l)).toArray t (0, 0))
section
variable {k : IntKind} {w w' : World} {g : Nat} {t : TypeId} {l : List Nat}
theorem Blk.lt (h : Blk k w g t l) : g < w.heap.size := (Array.getElem?_eq_some_iff.1 h).1
theorem Blk.cell (h : Blk k w g t l) {i : Nat} (hi : i < l.length) : w.cell? ⟨g, i, none⟩ = some (.int k ((l.getD i 0 : Nat) : Int)) := by
  rw [cell_of_row w g i _ t (0, 0) h]
  simpa using vs_get (k := k) (nI_get hi)
theorem Blk.frozen (h : Blk k w g t l) (i : Nat) : w.frozen? ⟨g, i, none⟩ = false := by
  unfold Blk at h
  simp [World.frozen?, h]
theorem Blk.drew (h : Blk k w g t l) : Blk k w.drew g t l := h
theorem Blk.alloc (h : Blk k w g t l) (o : Obj) : Blk k (w.alloc o) g t l := (Below.heap_alloc w o g h.lt).trans h
theorem Blk.new (h : Blk k w g t l) (hb : Below w.heap.size w w') : Blk k w' g t l := (hb.block g h.lt).trans h
theorem Blk.kp {tt : Nat → Prop} (h : Blk k w g t l) (hk : Kp tt w w') (ht : ¬ tt g) : Blk k w' g t l := (hk.block g h.lt ht).trans h
theorem Blk.far (h : Blk k w g t l) {p : Addr} (hp : g ≠ p.block) (u : Value) : Blk k (w.setCell p u) g t l := (Below.heap_setCell w p u g hp).trans h
theorem Blk.set_ (h : Blk k w g t l) (i v : Nat) : Blk k (w.setCell ⟨g, i, none⟩ (.int k (v : Int))) g t (l.set i v) := by
  unfold Blk at h ⊢
  rw [nI_set, vs, List.map_set, ← vs]
  simp [World.setCell, Array.getElem?_modify, h]
theorem Blk.li (h : Blk k w g t l) {off n c : Nat} (hn : off + n ≤ l.length) (hc : n ≤ c) : LO k (· = g) w (.slice (some ⟨g, off, none⟩) n c) ((l.drop off).take n) := by
  have hl : ((l.drop off).take n).length = n := by rw [List.length_take, List.length_drop]; omega
  refine .inr ⟨g, off, c, by rw [nI_len, hl], by rw [nI_len, hl]; exact hc, rfl, h.lt, fun j v hj => ?_⟩
  have hjn : j < n := by have := (List.getElem?_eq_some_iff.1 hj).1; rw [nI_len, hl] at this; exact this
  rw [h.cell (by omega), ← getD_drop', ← getD_take' hjn]
  rw [nI_get (by omega)] at hj
  injection hj with hj
  rw [← hj]
theorem Blk.li0 (h : Blk k w g t l) {n c : Nat} (hn : l.length = n) (hc : n ≤ c) : LO k (· = g) w (.slice (some ⟨g, 0, none⟩) n c) l := by
  have := h.li (off := 0) (n := n) (c := c) (by omega) hc
  rwa [List.drop_zero, List.take_of_length_le (by omega)] at this
theorem Blk.of_own {base n : Nat} (h : w.ownsRow base t 1 (.slice (some ⟨g, 0, none⟩) n n) n (vs k (nI l))) : Blk k w g t l := by
  rcases h.2 with ⟨h0, _⟩ | ⟨g', cap, cur, h1, h2, h3, h4, h5, h6, h7⟩
  · cases h0
  · injection h1 with h1 _ h9
    injection h1 with h1
    have e : g = g' := by injection h1
    subst e h9
    have h8 : cur = (vs k (nI l)).toArray := by
      apply Array.toList_inj.1
      rw [← h7]
      exact (List.take_of_length_le (by simp; omega)).symm
    unfold Blk
    rw [h3, h8]
end
theorem made_vs (k : IntKind) (n : Nat) : (madeCells (Value.int k 0).cells (n * 1)).toList = vs k (nI (List.replicate n 0)) := by
  rw [Nat.mul_one, nI_zeros]
  simp only [madeCells, vs, List.map_replicate]
  rw [List.eq_replicate_iff]
  refine ⟨by simp, fun b hb => ?_⟩
  simp only [Array.toList_map, List.mem_map] at hb
  obtain ⟨x, _, rfl⟩ := hb
  show (#[Value.int k 0] : Array Value)[x % 1]! = _
  rw [Nat.mod_one]
  rfl
/-- make([]T, n): a block of zeros of the call's own, at the heap's end. -/
theorem wpList_make_blk {P : Program} (w : World) {ops : Array Oper} {rest : List Oper} {o : Oper} {a : Act} {Q : Exit → Act → World → Prop}
    (hg : o.guard = none) (l c : Operand) (t : TypeId) (hop : o.op = Op.makeSlice t l c)
    (e : TypeId) (i : TypeInfo) (k : IntKind) (bytes : Nat) (h1 : P.underlying t = some (.slice e)) (h2 : P.info? e = some i) (h3 : i.zero = some (.int k 0)) (h4 : i.size = 1) (h5 : i.bytes = bytes)
    (n : Nat) (L : Int) (hl : a.eval l = .int .i64 L) (hc : a.eval c = .int .i64 L) (hL : L = (n : Int)) (hb8 : bytes ≤ 8) (hn : n ≤ 1000000)
    (hK : ∀ w', Blk k w' w.heap.size e (List.replicate n 0) → Below w.heap.size w w' → wpList P ops Q rest (a.put o.dst (.slice (some ⟨w.heap.size, 0, none⟩) n n)) w') :
    wpList P ops Q (o :: rest) a w := by
  refine wpList_make_full w hg l c t hop w.heap.size e i (.int k 0) 1 h1 h2 h3 h4 .i64 .i64 _ _ n hl hc hL hL ?_ (by unfold maxLen; omega) (Nat.le_refl _) ?_
  · rw [h5]
    have := Nat.mul_le_mul hb8 hn
    omega
  · intro w' hown hgrow
    refine hK w' ?_ ((Below.refl _ w).grown hgrow (Nat.le_refl _) (fun g h => by cases h))
    rw [made_vs] at hown
    exact Blk.of_own hown
/-- A block by a literal. -/
theorem Blk.lit (w : World) (k : IntKind) (t : TypeId) (l : List Nat) : Blk k (w.alloc (.cells (vs k (nI l)).toArray t)) w.heap.size t l := heap_alloc_new w _
theorem own_snocN {k : IntKind} {W : World} {base t n : Nat} {v : Value} {pre : List Nat} {x : Nat} {y : Int} (hk : pre.length = n) (h : W.ownsRow base t 1 v (n + 1) (vs k (nI pre) ++ [.int k y])) (hy : y = (x : Int)) :
    W.ownsRow base t 1 v (n + 1) (vs k (nI (pre ++ [x]))) := by
  subst hk hy
  rw [nI_append, vs, List.map_append]
  exact h
end Go.Proofs.Ytpcliampffeknaa
