/- Words for memory: which blocks a call turns; slices that read as a list and lie in blocks of a given kind; a writer's and a reader's memory. Conditions: none. -/
import Derived.Test.YtpcliampffeknaaHMem
import Derived.Test.YtpcliampffeknaaWMath2
import Derived.Laws.Slices
import Derived.Laws.BytesString
import Derived.Laws.Cells
import Derived.Lib.AppendStr
import Derived.Deep.Draws
namespace Go.Proofs.Ytpcliampffeknaa
open Go.RowKit

/-- Of what was there, the blocks of t alone have turned. -/
structure Kp (t : Nat → Prop) (w w' : World) : Prop where
  os : w'.os = w.os
  tape : w'.tape = w.tape
  output : w'.output = w.output
  size : w.heap.size ≤ w'.heap.size
  block : ∀ k, k < w.heap.size → ¬ t k → w'.heap[k]? = w.heap[k]?
section
variable {t t' : Nat → Prop} {w w' w'' : World}
theorem Kp.refl (t : Nat → Prop) (w : World) : Kp t w w := ⟨rfl, rfl, rfl, Nat.le_refl _, fun _ _ _ => rfl⟩
theorem Kp.trans (h : Kp t w w') (h' : Kp t w' w'') : Kp t w w'' :=
  ⟨h'.os.trans h.os, h'.tape.trans h.tape, h'.output.trans h.output, Nat.le_trans h.size h'.size, fun k hk ht => (h'.block k (Nat.lt_of_lt_of_le hk h.size) ht).trans (h.block k hk ht)⟩
/-- Behind it a step of another kind: what that one turns below the first world's size is of the first one's kind. -/
theorem Kp.step (h : Kp t w w') (h' : Kp t' w' w'') (hs : ∀ k, k < w.heap.size → t' k → t k) : Kp t w w'' :=
  ⟨h'.os.trans h.os, h'.tape.trans h.tape, h'.output.trans h.output, Nat.le_trans h.size h'.size, fun k hk ht => (h'.block k (Nat.lt_of_lt_of_le hk h.size) (fun e => ht (hs k hk e))).trans (h.block k hk ht)⟩
theorem Kp.mono (h : Kp t w w') (hs : ∀ k, k < w.heap.size → t k → t' k) : Kp t' w w' := ⟨h.os, h.tape, h.output, h.size, fun k hk ht => h.block k hk (fun e => ht (hs k hk e))⟩
theorem Kp.drew (h : Kp t w w') : Kp t w w'.drew := ⟨h.os, h.tape, h.output, h.size, h.block⟩
theorem Kp.alloc (h : Kp t w w') (o : Obj) : Kp t w (w'.alloc o) :=
  h.trans ⟨rfl, rfl, rfl, by simp, fun k hk _ => Below.heap_alloc _ _ _ hk⟩
theorem Kp.setCell (h : Kp t w w') {p : Addr} (hp : p.block < w.heap.size → t p.block) (u : Value) : Kp t w (w'.setCell p u) :=
  h.step (t' := fun k => k = p.block) ⟨rfl, rfl, rfl, by simp [World.setCell], fun k _ ht => Below.heap_setCell _ _ _ _ ht⟩ (fun k hk e => by subst e; exact hp hk)
theorem Kp.grown (h : Kp t w w') {row : Option Nat} (hg : w'.grownBy w'' row) (hr : ∀ k, row = some k → k < w.heap.size → t k) : Kp t w w'' :=
  h.step (t' := fun k => row = some k) ⟨hg.os, hg.tape, hg.output, hg.size, fun k hk ht => hg.block k hk (fun e => ht e.symm)⟩ (fun k hk e => hr k e hk)
theorem Kp.of_below {B : Nat} (h : Below B w w') (hB : ∀ k, k < w.heap.size → B ≤ k → t k) : Kp t w w' :=
  ⟨h.os, h.tape, h.output, h.size, fun k hk ht => h.block k (by rcases Nat.lt_or_ge k B with hlt | hge; exact hlt; exact absurd (hB k hk hge) ht)⟩
theorem Kp.new (h : Below w.heap.size w w') : Kp t w w' := Kp.of_below h fun k hk hB => by omega
theorem Kp.below {B : Nat} (h : Kp t w w') (hB : B ≤ w.heap.size) (ht : ∀ k, t k → B ≤ k) : Below B w w' :=
  ⟨h.os, h.tape, h.output, h.size, fun k hk => h.block k (by omega) (fun e => by have := ht k e; omega)⟩
theorem Kp.below_new (h : Kp t w w') (ht : ∀ k, k < w.heap.size → ¬ t k) : Below w.heap.size w w' :=
  ⟨h.os, h.tape, h.output, h.size, fun k hk => h.block k hk (ht k hk)⟩
theorem Kp.cell (h : Kp t w w') {p : Addr} (hp : p.block < w.heap.size) (ht : ¬ t p.block) : w'.cell? p = w.cell? p := World.cell?_of_block (w := w) (h.block p.block hp ht)
end

/-- The slice value reads as xs; it lies in a block of the kind ok. -/
def In (k : IntKind) (w : World) (ok : Nat → Prop) (sv : Value) (xs : List Int) : Prop :=
  (sv = .slice none 0 0 ∧ xs = []) ∨ ∃ b off c, sv = .slice (some ⟨b, off, none⟩) xs.length c ∧ xs.length ≤ c ∧ ok b ∧ b < w.heap.size ∧ ∀ j v, xs[j]? = some v → w.cell? ⟨b, off + j, none⟩ = some (.int k v)
section
variable {k : IntKind} {w w' : World} {ok ok' t : Nat → Prop} {sv : Value} {xs : List Int} {B : Nat}
theorem In.mono (h : In k w ok sv xs) (ho : ∀ b, b < w.heap.size → ok b → ok' b) : In k w ok' sv xs := by
  rcases h with h | ⟨b, off, c, h1, h2, h3, h4, h5⟩
  · exact .inl h
  · exact .inr ⟨b, off, c, h1, h2, ho b h4 h3, h4, h5⟩
theorem In.kp (h : In k w ok sv xs) (hk : Kp t w w') (ht : ∀ b, b < w.heap.size → ok b → ¬ t b) : In k w' ok sv xs := by
  rcases h with h | ⟨b, off, c, h1, h2, h3, h4, h5⟩
  · exact .inl h
  · exact .inr ⟨b, off, c, h1, h2, h3, Nat.lt_of_lt_of_le h4 hk.size, fun j v hj => (hk.cell (p := ⟨b, off + j, none⟩) h4 (ht b h4 h3)).trans (h5 j v hj)⟩
theorem In.new (h : In k w ok sv xs) (hb : Below w.heap.size w w') : In k w' ok sv xs := h.kp (t := fun _ => False) (Kp.new hb) fun _ _ _ e => e
theorem In.rd (h : In k w ok sv xs) : Rd k w w.heap.size sv xs := by
  rcases h with h | ⟨b, off, c, h1, h2, h3, h4, h5⟩
  · exact .inl h
  · exact .inr ⟨b, off, c, h1, h2, h4, h5⟩
theorem In.src (h : In k w ok sv xs) : Src k w sv xs := h.rd.src
theorem In.of_rd (h : Rd k w B sv xs) (hB : B ≤ w.heap.size) : In k w (· < B) sv xs := by
  rcases h with h | ⟨b, off, c, h1, h2, h3, h4⟩
  · exact .inl h
  · exact .inr ⟨b, off, c, h1, h2, h3, Nat.lt_of_lt_of_le h3 hB, h4⟩
theorem In.form (h : In k w ok sv xs) : ∃ a c, sv = .slice a xs.length c := h.rd.form
theorem In.at_ {a : Option Addr} {n c : Nat} (h : In k w ok (.slice a n c) xs) {j : Nat} (hj : j < xs.length) :
    ∃ b off, a = some ⟨b, off, none⟩ ∧ ok b ∧ b < w.heap.size ∧ w.cell? ⟨b, off + j, none⟩ = some (.int k (xs.getD j 0)) := by
  rcases h with ⟨_, rfl⟩ | ⟨b, off, c', h1, _, h3, h4, h5⟩
  · simp at hj
  · injection h1 with h1
    exact ⟨b, off, h1, h3, h4, h5 j _ (by rw [List.getD_eq_getElem?_getD, List.getElem?_eq_getElem hj]; rfl)⟩
theorem In.own {base e n : Nat} (h : w.ownsRow base e 1 sv n (vs k xs)) : In k w (base ≤ ·) sv xs := by
  have hl : n = xs.length := by have := h.1; rw [vs_length] at this; omega
  subst hl
  rcases h.2 with ⟨rfl, h0⟩ | ⟨g, cap, cur, rfl, hb, hh, hc, _⟩
  · exact .inl ⟨rfl, List.eq_nil_of_length_eq_zero h0⟩
  · refine .inr ⟨g, 0, cap, rfl, hc, hb, (Array.getElem?_eq_some_iff.1 hh).1, fun j v hj => ?_⟩
    have := h.cells (g := g) rfl j _ (vs_get hj)
    rwa [Go.WideShapes.add_plain] at this
theorem In.nil : In k w ok (.slice none 0 0) [] := .inl ⟨rfl, rfl⟩
theorem In.len {a : Option Addr} {n c : Nat} (h : In k w ok (.slice a n c) xs) : n = xs.length ∧ n ≤ c := by
  rcases h with ⟨h, rfl⟩ | ⟨b, off, c', h1, h2, _⟩
  · injection h with _ h1 h2; subst h1 h2; exact ⟨rfl, Nat.le_refl _⟩
  · injection h1 with _ h1 h3; subst h1 h3; exact ⟨rfl, h2⟩
theorem In.cells {a : Option Addr} {n c : Nat} (h : In k w ok (.slice a n c) xs) (h0 : 0 < n) : ∃ ad, a = some ad ∧ ∀ j u, (vs k xs)[j]? = some u → w.cell? (ad.add j) = some u := by
  rcases h with ⟨h, rfl⟩ | ⟨b, off, c', h1, h2, _, _, h5⟩
  · injection h with _ h1; omega
  · injection h1 with h1
    refine ⟨⟨b, off, none⟩, h1, fun j u hu => ?_⟩
    simp only [vs, List.getElem?_map, Option.map_eq_some_iff] at hu
    obtain ⟨v, hv, rfl⟩ := hu
    rw [Go.WideShapes.add_plain]
    exact h5 j v hv

/-- s[j:] and s[:j] of such a slice, as one equation each. -/
theorem In.from_ {P : Program} {ty e : TypeId} (ht : P.underlying ty = some (.slice e)) (hs : ∀ W, (sizeOf e).run P W = .ok 1 W) {a : Option Addr} {n c : Nat} (h : In k w ok (.slice a n c) xs) (j : Nat) (hj : j ≤ n) (z : Int) (hz : z = (j : Int)) :
    ∃ a' c', (∀ W, (Instr.slice ty (.slice a n c) (some (.int .i64 z)) none none).run P W = .ok (.slice a' (n - j) c') W) ∧ In k w ok (.slice a' (n - j) c') (xs.drop j) := by
  have he : P.elem ty = e := by simp [Program.elem, ht]
  obtain ⟨hn, hc⟩ := h.len
  subst hz
  refine ⟨if c = j then a else a.map (·.add (j * 1)), c - j, fun W => ?_, ?_⟩
  · rw [run_slice_l (ht := by rw [ht, he]) (h0 := by omega) (h1 := by omega), he, hs W]
    simp only [Result.andThen, sliced, Int.toNat_natCast]
  · rcases h with ⟨h, rfl⟩ | ⟨b, off, c', h1, h2, h3, h4, h5⟩
    · injection h with h1 h2 h3
      subst h1 h2 h3
      obtain rfl : j = 0 := by omega
      exact .inl ⟨by simp, by simp⟩
    · injection h1 with h1 h6 h7
      subst h1 h7
      by_cases e : c = j
      · rw [if_pos e]
        have : xs.drop j = [] := List.drop_of_length_le (by omega)
        rw [this]
        exact .inr ⟨b, off, c - j, by rw [show n - j = 0 by omega]; rfl, Nat.zero_le _, h3, h4, fun i v hi => by simp at hi⟩
      · rw [if_neg e]
        refine .inr ⟨b, off + j, c - j, ?_, ?_, h3, h4, fun i v hi => ?_⟩
        · rw [List.length_drop, h6, Nat.mul_one, Option.map_some, Go.WideShapes.add_plain]
        · rw [List.length_drop]; omega
        · rw [List.getElem?_drop] at hi
          rw [Nat.add_assoc]
          exact h5 _ v hi
theorem In.to_ {P : Program} {ty e : TypeId} (ht : P.underlying ty = some (.slice e)) (hs : ∀ W, (sizeOf e).run P W = .ok 1 W) {a : Option Addr} {n c : Nat} (h : In k w ok (.slice a n c) xs) (j : Nat) (hj : j ≤ n) :
    ∃ a', (∀ W, (Instr.slice ty (.slice a n c) none (some (.int .i64 (j : Int))) none).run P W = .ok (.slice a' j c) W) ∧ In k w ok (.slice a' j c) (xs.take j) := by
  have he : P.elem ty = e := by simp [Program.elem, ht]
  obtain ⟨hn, hc⟩ := h.len
  refine ⟨if c = 0 then a else a.map (·.add (0 * 1)), fun W => ?_, ?_⟩
  · rw [run_slice_h (ht := by rw [ht, he]) (h0 := by omega) (h2 := by omega), he, hs W]
    simp only [Result.andThen, sliced, Int.toNat_natCast, Nat.sub_zero]
  · rcases h with ⟨h, rfl⟩ | ⟨b, off, c', h1, h2, h3, h4, h5⟩
    · injection h with h1 h2 h3
      subst h1 h2 h3
      obtain rfl : j = 0 := by omega
      exact .inl ⟨by simp, by simp⟩
    · injection h1 with h1 h6 h7
      subst h1 h7
      have hl : (xs.take j).length = j := by rw [List.length_take]; omega
      refine .inr ⟨b, off, c, ?_, by omega, h3, h4, fun i v hi => ?_⟩
      · rw [hl]
        split
        · rfl
        · rw [Nat.zero_mul, Option.map_some, Go.WideShapes.add_plain, Nat.add_zero]
      · rw [List.getElem?_take] at hi
        split at hi
        · exact h5 i v hi
        · cases hi
/-- Bytes made into a string. -/
theorem In.text {P : Program} {src dst e : TypeId} (hs : P.underlying src = some (.slice e)) (he : P.underlying e = some (.int .u8)) (hd : P.underlying dst = some .string) {l : List UInt8} {a : Option Addr} {n c : Nat} (h : In .u8 w ok (.slice a n c) (bI l)) :
    (convert src dst (.slice a n c)).run P w = .ok (.string ⟨l.toArray⟩) w := by
  rw [run_convert_bytes_string w src dst e a n c hs he hd]
  have hfold : ∀ (l : List UInt8) (s : ByteArray), (bI l).foldl (fun r n => r.push (UInt8.ofNat n.toNat)) s = ⟨s.data ++ l.toArray⟩ := by
    intro l
    induction l with
    | nil => intro s; simp [bI]
    | cons x l ih =>
      intro s
      have := ih (s.push x)
      simp only [bI, List.map_cons, List.foldl_cons, Int.toNat_natCast, UInt8.ofNat_toNat] at this ⊢
      rw [this]
      simp [ByteArray.push]
  rcases h with ⟨h, h0⟩ | ⟨b, off, c', h1, h2, _, _, h5⟩
  · injection h with h1 h2 h3
    subst h1 h2 h3
    have : l = [] := by simpa [bI] using h0
    subst this
    simp [Conv.bytesToString]
    rfl
  · injection h1 with h1 h6 h7
    subst h1 h6
    rw [run_bytesToString w ⟨b, off, none⟩ (bI l).length c (bI l)]
    · rw [hfold]; simp
    · have := run_loadCells_list (P := P) (w := w) ⟨b, off, none⟩ (vs .u8 (bI l)) (fun j u hu => by
        simp only [vs, List.getElem?_map, Option.map_eq_some_iff] at hu
        obtain ⟨v, hv, rfl⟩ := hu
        rw [Go.WideShapes.add_plain]
        exact h5 j v hv)
      rw [vs_length] at this
      exact this
end

theorem alloc_ge {w : World} {o : Obj} {n : Nat} (h : n ≤ w.heap.size) : n ≤ (w.alloc o).heap.size := by simp; omega
theorem one_cells (k : IntKind) (x : Int) : ∀ u ∈ [Value.int k x], u.oneCell' = true := by
  intro u hu
  simp only [List.mem_singleton] at hu
  subst hu
  rfl
/-- append onto a row of the call's own, the source nil or not. -/
theorem wpList_append_in {P : Program} {w : World} {ops : Array Oper} {rest : List Oper} {o : Oper} {a : Act} {Q : Exit → Act → World → Prop} (hgd : o.guard = none) (s x : Operand) (t : TypeId)
    (ho : o.op = .call { callee := .builtin .append, args := #[s, x], argTypes := #[t, t] })
    (base : Nat) (e : TypeId) (i : TypeInfo) (z : Value) (bytes : Nat) (ht : P.underlying t = some (.slice e)) (hi : P.info? e = some i) (hz : i.zero = some z)
    (hsize : i.size = 1) (hby : i.bytes = bytes) (hzs : z.cells.size = 1)
    (v : Value) (n : Nat) (xs : List Value) (hs : a.eval s = v) (hown : w.ownsRow base e 1 v n xs)
    (k : IntKind) (ok : Nat → Prop) (A : Option Addr) (m c : Nat) (news : List Int) (hx : a.eval x = .slice A m c) (hr : In k w ok (.slice A m c) news)
    (h63 : n + m ≤ maxLen) (hbytes : (n + m) * bytes ≤ 140737488355328) (hbase : base ≤ w.heap.size)
    (h : ∀ v' w', w'.ownsRow base e 1 v' (n + m) (xs ++ vs k news) → w.grownBy w' v.ownBlock → wpList P ops Q rest (a.put o.dst v') w') : wpList P ops Q (o :: rest) a w := by
  obtain ⟨hm, _⟩ := hr.len
  rcases hr with ⟨h0, rfl⟩ | ⟨b, off, c', h1, _, _, _, h5⟩
  · injection h0 with h1 h2 h3
    subst h1 h2 h3
    refine wpList_append_own_none hgd s x t ho base e i 1 ht hi v n xs hs hown hx (h v w ?_ ⟨rfl, rfl, rfl, Nat.le_refl _, fun _ _ _ => rfl⟩)
    simpa [vs] using hown
  · injection h1 with h1 h6 h7
    subst h1
    refine wpList_append_own w hgd s x t ho base e i z 1 bytes ht hi hz hsize hby hzs (by decide) v n xs hs hown ⟨b, off, none⟩ m c (vs k news) hx (by rw [vs_length]; omega) (fun j u hu => ?_) (vs_one k news) h63 hbytes hbase (fun v' w' g1 g2 _ => h v' w' g1 g2)
    simp only [vs, List.getElem?_map, Option.map_eq_some_iff] at hu
    obtain ⟨v, hv, rfl⟩ := hu
    rw [Go.WideShapes.add_plain]
    exact h5 j v hv
end Go.Proofs.Ytpcliampffeknaa
