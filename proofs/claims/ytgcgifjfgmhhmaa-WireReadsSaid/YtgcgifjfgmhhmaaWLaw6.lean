/- The walk of WireOne: the law returns true for every input; what lay lies as it lay. -/
import Derived.Test.YtgcgifjfgmhhmaaWLaw5
namespace Go.Proofs.Ytgcgifjfgmhhmaa
open Go.RowKit

theorem upTo_ok (s : St) (i : Nat) : ∀ n ∈ (upTo s i).1, ok64 n := by
  induction i with
  | zero => intro n hn; cases hn
  | succ i ih => rw [upTo_succ]; exact ok_snoc ih (intS_bd _)
theorem intsS_ok (s : St) : ∀ n ∈ (intsS s).1, ok64 n := by
  unfold intsS
  split
  · intro n hn; cases hn
  · exact upTo_ok _ _
theorem intsS_small {s : St} {m : Nat} (h : (lenS s).1 ≤ m) : (intsS s).1.length ≤ m := by
  unfold intsS
  split
  · simp
  · rw [upTo_length]; exact h
/-- What is read out of few bytes is not long. -/
theorem fit_read (k : Nat) (hk : k ≤ 5) (s : St) (h : s.e = 0 → s.l.length ≤ 900) : Fit (readV k s).1 := by
  obtain ⟨l, hl, hn⟩ : ∃ l : List UInt8, (s.e = 0 → l = s.l) ∧ l.length ≤ 900 := by
    by_cases e : s.e = 0
    · exact ⟨s.l, fun _ => rfl, h e⟩
    · exact ⟨[], fun h => absurd h e, by simp⟩
  have h1 := lenS_small hl hn
  have h2 := partS_small hl hn
  match k, hk with
  | 0, _ => exact ⟨by simp [readV], uintS_lt s, ⟨by simp [readV], by simp [readV]⟩, by simp [readV], by simp [readV], fun _ h => by cases h⟩
  | 1, _ => exact ⟨by simp [readV], by simp [readV], intS_bd s, by simp [readV], by simp [readV], fun _ h => by cases h⟩
  | 2, _ =>
    refine ⟨by simp [readV], by simp [readV], ?_, by simp [readV], by simp [readV], fun _ h => by cases h⟩
    show ok64 (if (boolS s).1 = true then 1 else 0)
    split <;> exact ⟨by decide, by decide⟩
  | 3, _ => exact ⟨by simp [readV], by simp [readV], ⟨by simp [readV], by simp [readV]⟩, by show (partS s).1.length ≤ _; omega, by simp [readV], fun _ h => by cases h⟩
  | 4, _ => exact ⟨by simp [readV], by simp [readV], ⟨by simp [readV], by simp [readV]⟩, by show (partS s).1.length ≤ _; omega, by simp [readV], fun _ h => by cases h⟩
  | 5, _ => exact ⟨by simp [readV], by simp [readV], ⟨by simp [readV], by simp [readV]⟩, by simp [readV], by show (intsS s).1.length ≤ _; have := intsS_small h1; omega, intsS_ok s⟩
theorem encV_tiny {x : V} (h : Short x) (ht : Tiny x) : (encV x).length ≤ 50 := by
  obtain ⟨k, u, n, b, l⟩ := x
  obtain ⟨_, ⟨hk, hu, hn, _, _, ho⟩, _, _⟩ := h
  obtain ⟨hb, hl⟩ := ht
  have hol : ∀ l : List Int, (∀ y ∈ l, ok64 y) → (ofInts l).length ≤ 10 * l.length := by
    intro l
    induction l with
    | nil => intro _; simp [ofInts]
    | cons y l ih =>
      intro h
      have h1 := uv_len10 (zz_lt (h y (List.mem_cons_self ..)).1 (h y (List.mem_cons_self ..)).2)
      have h2 := ih fun z hz => h z (List.mem_cons_of_mem _ hz)
      simp only [ofInts, List.flatMap_cons, List.length_append, List.length_cons] at h2 ⊢
      omega
  dsimp only at hk hu hn hb hl ho
  match k, hk with
  | 0, _ => have := uv_len10 hu; simp only [encV]; omega
  | 1, _ => have := uv_len10 (zz_lt hn.1 hn.2); simp only [encV]; omega
  | 2, _ => simp [encV]
  | 3, _ => have := uv_len10 (n := b.length) (by omega); simp only [encV, List.length_append]; omega
  | 4, _ => have := uv_len10 (n := b.length) (by omega); simp only [encV, List.length_append]; omega
  | 5, _ => have := uv_len10 (n := l.length) (by omega); have := hol l ho; simp only [encV, List.length_append]; omega
theorem encs_tiny {ys : List Y} (h : ∀ y ∈ ys, Short y.x) (ht : ∀ y ∈ ys, Tiny y.x) : (encs (xs ys)).length ≤ 50 * ys.length := by
  induction ys with
  | nil => simp [encs, xs]
  | cons y ys ih =>
    have h1 := encV_tiny (h y (List.mem_cons_self ..)) (ht y (List.mem_cons_self ..))
    have h2 := ih (fun z hz => h z (List.mem_cons_of_mem _ hz)) (fun z hz => ht z (List.mem_cons_of_mem _ hz))
    simp only [encs, xs, List.map_cons, List.flatMap_cons, List.length_append, List.length_cons] at h2 ⊢
    omega
theorem own_kp {w w' : World} {base n size : Nat} {e : TypeId} {v : Value} {zs : List Value} {t : Nat → Prop} (h : w.ownsRow base e size v n zs) (hk : Kp t w w') (ht : ∀ b, base ≤ b → ¬ t b) : w'.ownsRow base e size v n zs := by
  refine ⟨h.1, ?_⟩
  rcases h.2 with h0 | ⟨b, cap, cur, h1, h2, h3, h4⟩
  · exact .inl h0
  · exact .inr ⟨b, cap, cur, h1, h2, (hk.block b (Array.getElem?_eq_some_iff.1 h3).1 (ht b h2)).trans h3, h4⟩
/-- Values that were read so far: what they encode and what is left make up the bytes. -/
def Got (E : List UInt8) (gs : List Y) (s : St) : Prop := s.e = 0 → E = encs (xs gs) ++ s.l
theorem xs_snoc (gs : List Y) (y : Y) : xs (gs ++ [y]) = xs gs ++ [y.x] := by simp [xs]
theorem Got.step {E : List UInt8} {gs : List Y} {s : St} {k : Nat} {y : Y} (h : Got E gs s) (hy : y.x = (readV k s).1) : Got E (gs ++ [y]) (readV k s).2 := by
  intro he
  have hs : readV k s = ((readV k s).1, ⟨(readV k s).2.l, 0⟩) := by rw [← he]
  obtain ⟨h1, h2⟩ := readV_one hs
  rw [xs_snoc, encs_snoc, hy, List.append_assoc, ← h2]
  exact h h1
theorem Got.len {E : List UInt8} {gs : List Y} {s : St} (h : Got E gs s) {m : Nat} (hE : E.length ≤ m) : s.e = 0 → s.l.length ≤ m := by
  intro he
  have := congrArg List.length (h he)
  rw [List.length_append] at this
  omega
theorem Got.end_ {E : List UInt8} {gs : List Y} {s : St} (h : Got E gs s) (he : endS s = 0) : E = encs (xs gs) := by
  unfold endS at he
  split at he
  · rename_i h0
    split at he
    · rename_i hl
      have := h h0
      rw [hl, List.append_nil] at this
      exact this
    · cases he
  · rename_i h0
    exact absurd he h0
theorem row_app {B : Nat} {W w1 : World} {v v' : Value} {ys : List Y} {y : Y} {j : Nat} {cs : List Value} {P : Y → Prop} (hyl : ys.length = j) (hys : ∀ y ∈ ys, P y ∧ y.In W (Off B v))
    (hown' : w1.ownsRow B 28 5 v' (j + 1) (cells5 ys ++ cs)) (hgrow : W.grownBy w1 v.ownBlock) (hat : v'.ownBlock = v.ownBlock ∨ v'.ownBlock = some W.heap.size)
    (hs : P y) (hy : y.In W (Off B v)) (hc : cs = y.cells) :
    (ys ++ [y]).length = j + 1 ∧ w1.ownsRow B 28 5 v' (j + 1) (cells5 (ys ++ [y])) ∧ ∀ z ∈ ys ++ [y], P z ∧ z.In w1 (Off B v') := by
  refine ⟨by rw [List.length_append, hyl]; rfl, by rw [cells5_snoc, ← hc]; exact hown', fun z hz => ?_⟩
  rcases List.mem_append.1 hz with hz | hz
  · exact ⟨(hys z hz).1, keepY (hys z hz).2 hgrow hat⟩
  · simp only [List.mem_singleton] at hz
    subst hz
    exact ⟨hs, keepY hy hgrow hat⟩
end Go.Proofs.Ytgcgifjfgmhhmaa
