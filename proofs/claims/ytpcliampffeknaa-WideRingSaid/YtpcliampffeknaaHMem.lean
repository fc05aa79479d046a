/- Words for slices of integers in memory: a slice value that reads as a list of integers of one kind; what keeps it. Conditions: none. -/
import Derived.Below
import Derived.Laws.OwnMore
import Derived.WideShapes
import Derived.Laws.Rows
import Derived.OwnWalk
import Derived.Laws.AppendOwnNone
import Derived.Maps.AppendAt
import Derived.Lib.ConvBytes
import Derived.Test.YtpcliampffeknaaHMath
namespace Go.Proofs.Ytpcliampffeknaa
open Go.RowKit

/-- A list of integers of one kind as values. -/
def vs (k : IntKind) (xs : List Int) : List Value := xs.map (Value.int k)
theorem vs_length (k : IntKind) (xs : List Int) : (vs k xs).length = xs.length := by simp [vs]
theorem vs_one (k : IntKind) (xs : List Int) : ∀ u ∈ vs k xs, u.oneCell' = true := by
  intro u hu
  obtain ⟨x, _, rfl⟩ := List.mem_map.1 hu
  rfl
theorem vs_get {k : IntKind} {xs : List Int} {j : Nat} {v : Int} (h : xs[j]? = some v) : (vs k xs)[j]? = some (.int k v) := by simp [vs, h]

/-- The slice value reads as xs, wherever it lies. -/
def Src (k : IntKind) (w : World) (sv : Value) (xs : List Int) : Prop :=
  (sv = .slice none 0 0 ∧ xs = []) ∨ ∃ ad c, sv = .slice (some ad) xs.length c ∧ xs.length ≤ c ∧ ∀ j v, xs[j]? = some v → w.cell? (ad.add j) = some (.int k v)

/-- The slice value reads as xs and lies below block B. -/
def Rd (k : IntKind) (w : World) (B : Nat) (sv : Value) (xs : List Int) : Prop :=
  (sv = .slice none 0 0 ∧ xs = []) ∨ ∃ b off c, sv = .slice (some ⟨b, off, none⟩) xs.length c ∧ xs.length ≤ c ∧ b < B ∧ ∀ j v, xs[j]? = some v → w.cell? ⟨b, off + j, none⟩ = some (.int k v)

section
variable {k : IntKind} {w w' : World} {B B' : Nat} {sv : Value} {xs : List Int}
theorem Rd.src (h : Rd k w B sv xs) : Src k w sv xs := by
  rcases h with h | ⟨b, off, c, h1, h2, _, h3⟩
  · exact .inl h
  · exact .inr ⟨_, c, h1, h2, fun j v hj => by rw [Go.WideShapes.add_plain]; exact h3 j v hj⟩
theorem Rd.below (h : Rd k w B sv xs) (hb : Below B' w w') (hB : B ≤ B') : Rd k w' B sv xs := by
  rcases h with h | ⟨b, off, c, h1, h2, h3, h4⟩
  · exact .inl h
  · exact .inr ⟨b, off, c, h1, h2, h3, fun j v hj => (hb.cell (p := ⟨b, off + j, none⟩) (Nat.lt_of_lt_of_le h3 hB)).trans (h4 j v hj)⟩
theorem Rd.mono (h : Rd k w B sv xs) (hB : B ≤ B') : Rd k w B' sv xs := by
  rcases h with h | ⟨b, off, c, h1, h2, h3, h4⟩
  · exact .inl h
  · exact .inr ⟨b, off, c, h1, h2, Nat.lt_of_lt_of_le h3 hB, h4⟩
theorem Rd.form (h : Rd k w B sv xs) : ∃ a c, sv = .slice a xs.length c := by
  rcases h with ⟨rfl, rfl⟩ | ⟨b, off, c, rfl, _⟩
  · exact ⟨none, 0, rfl⟩
  · exact ⟨_, c, rfl⟩
theorem Rd.at_ {a : Option Addr} {n c : Nat} (h : Rd k w B (.slice a n c) xs) {j : Nat} (hj : j < xs.length) :
    ∃ b off, a = some ⟨b, off, none⟩ ∧ b < B ∧ w.cell? ⟨b, off + j, none⟩ = some (.int k (xs.getD j 0)) := by
  rcases h with ⟨_, rfl⟩ | ⟨b, off, c', h1, _, h3, h4⟩
  · simp at hj
  · injection h1 with h1
    exact ⟨b, off, h1, h3, h4 j _ (by rw [List.getD_eq_getElem?_getD, List.getElem?_eq_getElem hj]; rfl)⟩
theorem Rd.own {base e n : Nat} (h : w.ownsRow base e 1 sv n (vs k xs)) : Rd k w w.heap.size sv xs := by
  have hl : n = xs.length := by have := h.1; rw [vs_length] at this; omega
  subst hl
  rcases h.2 with ⟨rfl, h0⟩ | ⟨g, cap, cur, rfl, _, hh, hc, _⟩
  · exact .inl ⟨rfl, List.eq_nil_of_length_eq_zero h0⟩
  · refine .inr ⟨g, 0, cap, rfl, hc, (Array.getElem?_eq_some_iff.1 hh).1, fun j v hj => ?_⟩
    have := h.cells (g := g) rfl j _ (vs_get hj)
    rwa [Go.WideShapes.add_plain] at this
theorem own_form {base e n : Nat} {ys : List Value} {size : Nat} (h : w.ownsRow base e size sv n ys) : ∃ a c, sv = .slice a n c := by
  rcases h.2 with ⟨rfl, rfl⟩ | ⟨g, cap, cur, rfl, _⟩
  · exact ⟨none, 0, rfl⟩
  · exact ⟨_, _, rfl⟩
/-- A row of the call's own from block base on lies as it lay where all below base + is left alone. -/
theorem own_below {base e n size : Nat} {ys : List Value} (h : w.ownsRow base e size sv n ys) (hb : Below w.heap.size w w') : w'.ownsRow base e size sv n ys := by
  refine ⟨h.1, ?_⟩
  rcases h.2 with h0 | ⟨g, cap, cur, h1, h2, h3, h4⟩
  · exact .inl h0
  · exact .inr ⟨g, cap, cur, h1, h2, (hb.block g (Array.getElem?_eq_some_iff.1 h3).1).trans h3, h4⟩
theorem own_base {base base' e n size : Nat} {ys : List Value} (h : w.ownsRow base e size sv n ys) (hb : base' ≤ base) : w.ownsRow base' e size sv n ys := by
  refine ⟨h.1, ?_⟩
  rcases h.2 with h0 | ⟨g, cap, cur, h1, h2, h3, h4⟩
  · exact .inl h0
  · exact .inr ⟨g, cap, cur, h1, Nat.le_trans hb h2, h3, h4⟩
theorem own_block_ge {base e n size : Nat} {ys : List Value} (h : w.ownsRow base e size sv n ys) : ∀ g, sv.ownBlock = some g → base ≤ g := by
  rcases h.2 with ⟨rfl, _⟩ | ⟨g, cap, cur, rfl, h2, _⟩
  · intro g hg; simp [Value.ownBlock] at hg
  · intro g' hg; simp [Value.ownBlock] at hg; omega
theorem bcell (hb : Below B w w') : (∀ b o, b < B → w'.cell? ⟨b, o, none⟩ = w.cell? ⟨b, o, none⟩) ∧ (∀ b o, b < B → w'.frozen? ⟨b, o, none⟩ = w.frozen? ⟨b, o, none⟩) :=
  ⟨fun b o h => hb.cell (p := ⟨b, o, none⟩) h, fun b o h => hb.frozen (p := ⟨b, o, none⟩) h⟩
end
/-- A string made into bytes: a new slice that reads as the string's bytes; what lay lies as it lay. -/
theorem conv_bytes {P : Program} (w : World) (src dst e : TypeId) (s : ByteArray) (hs : P.underlying src = some .string) (hd : P.underlying dst = some (.slice e)) (he : P.underlying e = some (.int .u8)) :
    ∃ W1 c, (convert src dst (.string s)).run P w = .ok (.slice (some ⟨w.heap.size, 0, none⟩) s.size c) W1 ∧ Below w.heap.size w W1 ∧ Rd .u8 W1 W1.heap.size (.slice (some ⟨w.heap.size, 0, none⟩) s.size c) (bI s.data.toList) := by
  refine ⟨Lib.bytesWorld w e s, grownCap w s.size 0 e, Lib.run_convert_string_bytes w src dst e s hs hd he, ⟨?_, ?_, ?_, ?_, ?_⟩, .inr ⟨w.heap.size, 0, grownCap w s.size 0 e, ?_, ?_, ?_, ?_⟩⟩
  · simp [Lib.bytesWorld, World.freeze, World.alloc, World.drew, -World.alloc_eq, -World.drew_eq]
  · simp [Lib.bytesWorld, World.freeze, World.alloc, World.drew, -World.alloc_eq, -World.drew_eq]
  · simp [Lib.bytesWorld, World.freeze, World.alloc, World.drew, -World.alloc_eq, -World.drew_eq]
  · rw [Lib.bytesWorld_size]; omega
  · exact fun k hk => Lib.bytesWorld_at_old w e s k hk
  · rw [bI_length]; simp
  · rw [bI_length]
    simpa using grownCap_ge w s.size 0 e
  · rw [Lib.bytesWorld_size]; omega
  · intro j v hj
    have hlt : j < s.size := by have := (List.getElem?_eq_some_iff.1 hj).1; rw [bI_length] at this; simpa using this
    rw [Nat.zero_add, Lib.bytesWorld_cell w e s j hlt]
    have hlt' : j < s.data.toList.length := by simpa using hlt
    have h2 := bI_get hlt'
    rw [List.getD_eq_getElem?_getD, hj] at h2
    rw [List.getD_eq_getElem?_getD, List.getElem?_eq_getElem hlt']
    simpa using h2.symm
end Go.Proofs.Ytpcliampffeknaa
