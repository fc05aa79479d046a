/- Plain mathematics of package wire, at the level of values: round trip, one encoding, proper prefixes. Conditions: none. -/
import Derived.Test.YtpcliampffeknaaWMath
namespace Go.Proofs.Ytpcliampffeknaa
open Go.RowKit

theorem uintS_rt {n : Nat} (h : n < 18446744073709551616) (r : List UInt8) : uintS ⟨uv n ++ r, 0⟩ = (n, ⟨r, 0⟩) := by
  rw [uintS, if_neg (by simp)]
  show scan 0 0 (uv n ++ r) = _
  rw [scan_rt r n 0 0 (fun h => by omega) (by simpa using h)]
  simp
theorem uintS_one {s : St} {v : Nat} {r : List UInt8} (h : uintS s = (v, ⟨r, 0⟩)) : s.e = 0 ∧ s.l = uv v ++ r ∧ v < 18446744073709551616 := by
  by_cases he : s.e = 0
  · rw [uintS, if_neg (by simp [he])] at h
    obtain ⟨n, h1, h2, _, h4⟩ := scan_one _ _ _ _ _ (by omega) h
    simp at h2 h4
    subst h2
    exact ⟨he, h1, h4⟩
  · rw [uintS_err he] at h
    simp only [Prod.mk.injEq] at h
    rw [h.2] at he
    exact absurd rfl he
theorem uintS_zero {s : St} (h : (uintS s).2.e ≠ 0) : (uintS s).1 = 0 := by
  by_cases he : s.e = 0
  · rw [uintS, if_neg (by simp [he])] at h ⊢
    exact scan_zero _ _ _ _ _ rfl h
  · rw [uintS_err he]
theorem uintS_prefix {n : Nat} (h : n < 18446744073709551616) {p q : List UInt8} (hpq : p ++ q = uv n) (hq : q ≠ []) : uintS ⟨p, 0⟩ = (0, ⟨[], 3⟩) := by
  rw [uintS, if_neg (by simp)]
  exact scan_prefix n 0 0 p q (fun h => by omega) (by simpa using h) hpq hq
theorem uintS_lt (s : St) : (uintS s).1 < 18446744073709551616 := by
  rcases h : uintS s with ⟨v, r, e⟩
  by_cases he : e = 0
  · subst he; exact (uintS_one h).2.2
  · have := uintS_zero (s := s) (by rw [h]; exact he)
    rw [h] at this
    simp only at this ⊢
    omega
theorem intS_bd (s : St) : ok64 (intS s).1 := back_bd (uintS_lt s)
theorem uintS_len (s : St) : s.e = 0 → (uintS s).2.e = 0 → (uintS s).2.l.length < s.l.length := by
  intro h h2
  rcases hs : uintS s with ⟨v, r, e⟩
  rw [hs] at h2
  simp only at h2
  subst h2
  have := (uintS_one hs).2.1
  rw [this]
  have := uv_pos v
  simp; omega

theorem lenS_e (s : St) : (lenS s).2.e ≠ 0 → (lenS s).1 = 0 := by
  unfold lenS
  split
  · intro; rfl
  · exact uintS_zero
theorem lenS_le (s : St) : (lenS s).1 ≤ (lenS s).2.l.length := by
  unfold lenS
  split
  · exact Nat.zero_le _
  · omega
theorem lenS_rt {n : Nat} (h : n < 18446744073709551616) (r : List UInt8) (hr : n ≤ r.length) : lenS ⟨uv n ++ r, 0⟩ = (n, ⟨r, 0⟩) := by
  rw [lenS, uintS_rt h, if_neg (by simp; omega)]
theorem lenS_one {s : St} {v : Nat} {r : List UInt8} (h : lenS s = (v, ⟨r, 0⟩)) : s.e = 0 ∧ s.l = uv v ++ r ∧ v < 18446744073709551616 ∧ v ≤ r.length := by
  have hle := lenS_le s
  rw [h] at hle
  unfold lenS at h
  split at h
  · simp at h
  · obtain ⟨h1, h2, h3⟩ := uintS_one h
    exact ⟨h1, h2, h3, hle⟩
theorem lenS_short {n : Nat} (h : n < 18446744073709551616) (r : List UInt8) (hr : r.length < n) : lenS ⟨uv n ++ r, 0⟩ = (0, ⟨r, 3⟩) := by
  rw [lenS, uintS_rt h, if_pos (by simpa using hr)]
theorem lenS_prefix {n : Nat} (h : n < 18446744073709551616) {p q : List UInt8} (hpq : p ++ q = uv n) (hq : q ≠ []) : lenS ⟨p, 0⟩ = (0, ⟨[], 3⟩) := by
  rw [lenS, uintS_prefix h hpq hq, if_neg (by simp)]

theorem partS_rt (b r : List UInt8) (h : b.length < 18446744073709551616) : partS ⟨uv b.length ++ b ++ r, 0⟩ = (b, ⟨r, 0⟩) := by
  rw [partS, List.append_assoc, lenS_rt h _ (by simp), if_neg (by simp)]
  simp
theorem partS_one {s : St} {b r : List UInt8} (h : partS s = (b, ⟨r, 0⟩)) : s.e = 0 ∧ s.l = uv b.length ++ b ++ r := by
  unfold partS at h
  split at h
  · rename_i he; simp only [Prod.mk.injEq] at h; rw [h.2] at he; exact absurd rfl he
  · rename_i he
    rcases hl : lenS s with ⟨v, l, e⟩
    rw [hl] at h he
    simp only [ne_eq, Decidable.not_not] at he
    subst he
    obtain ⟨h1, h2, h3, h4⟩ := lenS_one hl
    simp only [Prod.mk.injEq, St.mk.injEq, and_true] at h
    obtain ⟨h5, h6⟩ := h
    refine ⟨h1, ?_⟩
    rw [← h5, ← h6, List.length_take, Nat.min_eq_left h4, List.append_assoc, List.take_append_drop]
    exact h2
theorem partS_e (s : St) : (partS s).2.e ≠ 0 → (partS s).1 = [] := by
  unfold partS
  split
  · intro; rfl
  · intro h; exact absurd rfl h

theorem upTo_rt (r : List UInt8) : ∀ (l : List Int) (i : Nat), i ≤ l.length → (∀ n ∈ l, ok64 n) → upTo ⟨ofInts l ++ r, 0⟩ i = (l.take i, ⟨ofInts (l.drop i) ++ r, 0⟩) := by
  intro l i
  induction i with
  | zero => intro _ _; rfl
  | succ i ih =>
    intro hi hl
    rw [upTo, ih (by omega) hl]
    have hd : l.drop i = l[i] :: l.drop (i + 1) := List.drop_eq_getElem_cons (by omega)
    have hm := hl l[i] (List.getElem_mem _)
    simp only [hd, ofInts, List.flatMap_cons, List.append_assoc, intS]
    rw [uintS_rt (zz_lt hm.1 hm.2), back_zz, List.take_succ_eq_append_getElem (by omega)]
theorem intsS_rt (l : List Int) (r : List UInt8) (h : l.length < 18446744073709551616) (hl : ∀ n ∈ l, ok64 n) (hlen : l.length ≤ (ofInts l ++ r).length) : intsS ⟨uv l.length ++ ofInts l ++ r, 0⟩ = (l, ⟨r, 0⟩) := by
  have h1 : lenS ⟨uv l.length ++ (ofInts l ++ r), 0⟩ = (l.length, ⟨ofInts l ++ r, 0⟩) := lenS_rt h _ hlen
  rw [intsS, List.append_assoc, h1]
  simp only [upTo_rt r l l.length (Nat.le_refl _) hl]
  simp [ofInts]
theorem ofInts_len (l : List Int) : l.length ≤ (ofInts l).length := by
  induction l with
  | nil => simp
  | cons a l ih =>
    have := uv_pos (zz a)
    simp only [ofInts, List.flatMap_cons, List.length_append, List.length_cons] at ih ⊢
    omega
theorem ofInts_snoc (l : List Int) (n : Int) : ofInts (l ++ [n]) = ofInts l ++ uv (zz n) := by simp [ofInts]
theorem upTo_one {s : St} : ∀ (i : Nat) (l : List Int) (r : List UInt8), upTo s i = (l, ⟨r, 0⟩) → s.e = 0 ∧ s.l = ofInts l ++ r ∧ l.length = i ∧ ∀ n ∈ l, ok64 n := by
  intro i
  induction i with
  | zero =>
    intro l r h
    simp only [upTo, Prod.mk.injEq] at h
    obtain ⟨h1, h2⟩ := h
    subst h1 h2
    exact ⟨rfl, rfl, rfl, fun n hn => by cases hn⟩
  | succ i ih =>
    intro l r h
    rw [upTo] at h
    simp only [Prod.mk.injEq] at h
    obtain ⟨h1, h2⟩ := h
    rcases hu : upTo s i with ⟨l0, r0, e0⟩
    rw [hu] at h1 h2
    simp only at h1 h2
    have hsplit : uintS ⟨r0, e0⟩ = ((uintS ⟨r0, e0⟩).1, ⟨r, 0⟩) := Prod.ext rfl h2
    obtain ⟨g1, g2, _⟩ := uintS_one hsplit
    simp only at g1
    subst g1
    obtain ⟨k1, k2, k3, k4⟩ := ih l0 r0 hu
    refine ⟨k1, ?_, ?_, ?_⟩
    · rw [k2, ← h1, ofInts_snoc, List.append_assoc]
      congr 1
      simp only at g2
      rw [intS, zz_back]
      exact g2
    · rw [← h1, List.length_append, k3]; rfl
    · intro n hn
      rw [← h1, List.mem_append] at hn
      rcases hn with hn | hn
      · exact k4 n hn
      · simp only [List.mem_singleton] at hn
        rw [hn]
        exact intS_bd _
theorem intsS_one {s : St} {l : List Int} {r : List UInt8} (h : intsS s = (l, ⟨r, 0⟩)) : s.e = 0 ∧ s.l = uv l.length ++ ofInts l ++ r ∧ (∀ n ∈ l, ok64 n) := by
  unfold intsS at h
  split at h
  · rename_i he; simp only [Prod.mk.injEq] at h; rw [h.2] at he; exact absurd rfl he
  · rcases hl : lenS s with ⟨v, l0, e0⟩
    rw [hl] at h
    simp only at h
    obtain ⟨h1, h2, h3, h4⟩ := upTo_one _ _ _ h
    simp only at h1 h2
    subst h1
    obtain ⟨g1, g2, _, _⟩ := lenS_one hl
    refine ⟨g1, ?_, h4⟩
    rw [g2, h3, h2, List.append_assoc]
theorem intsS_e (s : St) : (intsS s).2.e ≠ 0 → (intsS s).1 = [] := by
  unfold intsS
  split
  · intro; rfl
  · rename_i h; intro h2; exact absurd h2 h

theorem boolS_one {s : St} {v : Bool} {r : List UInt8} (h : boolS s = (v, ⟨r, 0⟩)) : s.e = 0 ∧ s.l = [if v then 1 else 0] ++ r := by
  obtain ⟨l, e⟩ := s
  unfold boolS at h
  by_cases he : e = 0
  · subst he
    rw [if_neg (by simp)] at h
    match l with
    | [] => simp at h
    | c :: l =>
      simp only at h
      by_cases hc : 1 < c.toNat
      · simp [hc] at h
      · rw [if_neg hc] at h
        simp only [Prod.mk.injEq, St.mk.injEq, and_true] at h
        obtain ⟨h1, rfl⟩ := h
        refine ⟨rfl, ?_⟩
        by_cases h2 : c.toNat = 1
        · have : c = 1 := UInt8.toNat_inj.1 (by rw [h2]; rfl)
          subst this
          rw [← h1]
          rfl
        · have : c = 0 := UInt8.toNat_inj.1 (by rw [show c.toNat = 0 by omega]; rfl)
          subst this
          rw [← h1]
          rfl
  · rw [if_pos (by simpa using he)] at h
    simp only [Prod.mk.injEq, St.mk.injEq] at h
    exact absurd h.2.2 he
/-- Round trip. -/
theorem readV_rt {x : V} (h : Good x) (r : List UInt8) : readV x.k ⟨encV x ++ r, 0⟩ = (x, ⟨r, 0⟩) := by
  obtain ⟨k, u, n, b, l⟩ := x
  match k, h with
  | 0, h =>
    obtain ⟨h1, rfl, rfl, rfl⟩ := h
    simp only [readV, encV, uintS_rt h1]
  | 1, h =>
    obtain ⟨rfl, h1, rfl, rfl⟩ := h
    simp only [readV, encV, intS, uintS_rt (zz_lt h1.1 h1.2), back_zz]
  | 2, h =>
    obtain ⟨rfl, h1, rfl, rfl⟩ := h
    rcases h1 with rfl | rfl <;> simp [readV, encV, boolS]
  | 3, h =>
    obtain ⟨rfl, rfl, h1, rfl⟩ := h
    simp only [readV, encV, partS_rt b r (by omega)]
  | 4, h =>
    obtain ⟨rfl, rfl, h1, rfl⟩ := h
    simp only [readV, encV, partS_rt b r (by omega)]
  | k + 5, h =>
    obtain ⟨rfl, rfl, rfl, h1, h2⟩ := h
    have := ofInts_len l
    simp only [readV, encV, intsS_rt l r (by omega) h2 (by simp; omega)]
/-- One encoding. -/
theorem readV_one {k : Nat} {s : St} {x : V} {r : List UInt8} (h : readV k s = (x, ⟨r, 0⟩)) : s.e = 0 ∧ s.l = encV x ++ r := by
  match k with
  | 0 =>
    simp only [readV, Prod.mk.injEq] at h
    obtain ⟨rfl, h⟩ := h
    obtain ⟨h1, h2, _⟩ := uintS_one (Prod.ext rfl h : uintS s = ((uintS s).1, ⟨r, 0⟩))
    exact ⟨h1, h2⟩
  | 1 =>
    simp only [readV, Prod.mk.injEq] at h
    obtain ⟨rfl, h⟩ := h
    obtain ⟨h1, h2, _⟩ := uintS_one (Prod.ext rfl h : uintS s = ((uintS s).1, ⟨r, 0⟩))
    exact ⟨h1, by simp only [encV, intS, zz_back]; exact h2⟩
  | 2 =>
    simp only [readV, Prod.mk.injEq] at h
    obtain ⟨rfl, h⟩ := h
    obtain ⟨h1, h2⟩ := boolS_one (Prod.ext rfl h : boolS s = ((boolS s).1, ⟨r, 0⟩))
    refine ⟨h1, h2.trans ?_⟩
    simp only [encV]
    cases (boolS s).1 <;> rfl
  | 3 =>
    simp only [readV, Prod.mk.injEq] at h
    obtain ⟨rfl, h⟩ := h
    obtain ⟨h1, h2⟩ := partS_one (Prod.ext rfl h : partS s = ((partS s).1, ⟨r, 0⟩))
    exact ⟨h1, h2⟩
  | 4 =>
    simp only [readV, Prod.mk.injEq] at h
    obtain ⟨rfl, h⟩ := h
    obtain ⟨h1, h2⟩ := partS_one (Prod.ext rfl h : partS s = ((partS s).1, ⟨r, 0⟩))
    exact ⟨h1, h2⟩
  | k + 5 =>
    simp only [readV, Prod.mk.injEq] at h
    obtain ⟨rfl, h⟩ := h
    obtain ⟨h1, h2, _⟩ := intsS_one (Prod.ext rfl h : intsS s = ((intsS s).1, ⟨r, 0⟩))
    exact ⟨h1, h2⟩
theorem readV_err (k : Nat) {s : St} (h : s.e ≠ 0) : readV k s = (⟨k, 0, 0, [], []⟩, s) := by
  have hl := lenS_err h
  have hp : partS s = ([], s) := by rw [partS, hl, if_pos h]
  have hi : intsS s = ([], s) := by rw [intsS, hl, if_pos (by simpa [upTo] using h)]; rfl
  match k with
  | 0 => simp [readV, uintS_err h]
  | 1 => simp [readV, intS_err h]
  | 2 => simp [readV, boolS, if_pos h]
  | 3 => simp [readV, hp]
  | 4 => simp [readV, hp]
  | k + 5 => simp [readV, hi]
/-- A proper prefix. -/
theorem app_cut {p q a b : List UInt8} (h : p ++ q = a ++ b) : (∃ p', p = a ++ p' ∧ p' ++ q = b) ∨ ∃ q', q' ≠ [] ∧ p ++ q' = a := by
  rcases List.append_eq_append_iff.1 h with ⟨a', h1, h2⟩ | ⟨c', h1, h2⟩
  · by_cases e : a' = []
    · subst e
      exact .inl ⟨[], by simpa using h1.symm, by simpa using h2⟩
    · exact .inr ⟨a', e, h1.symm⟩
  · exact .inl ⟨c', h1, h2.symm⟩
theorem upTo_prefix : ∀ (l : List Int) (p q : List UInt8), (∀ n ∈ l, ok64 n) → p ++ q = ofInts l → q ≠ [] → (upTo ⟨p, 0⟩ l.length).2.e = 3 := by
  have gen : ∀ (l : List Int) (s : St) (i : Nat), upTo s (i + l.length) = ((upTo s i).1 ++ (upTo (upTo s i).2 l.length).1, (upTo (upTo s i).2 l.length).2) := by
    intro l s i
    induction l.length with
    | zero => simp [upTo]
    | succ j ih => rw [← Nat.add_assoc, upTo, ih, upTo]; simp
  intro l
  induction l with
  | nil => intro p q _ h hq; simp [ofInts] at h; exact absurd h.2 hq
  | cons n l ih =>
    intro p q hl h hq
    have hn := hl n (List.mem_cons_self ..)
    have g := gen l ⟨p, 0⟩ 1
    rw [Nat.add_comm] at g
    rw [List.length_cons, g]
    simp only [ofInts, List.flatMap_cons] at h
    rcases app_cut h with ⟨p', rfl, h2⟩ | ⟨q', hq', h2⟩
    · have h1 : upTo ⟨uv (zz n) ++ p', 0⟩ 1 = ([n], ⟨p', 0⟩) := by
        simp only [upTo, intS, uintS_rt (zz_lt hn.1 hn.2), back_zz, List.nil_append]
      rw [h1]
      exact ih p' q (fun y hy => hl y (List.mem_cons_of_mem _ hy)) h2 hq
    · have h1 : (upTo ⟨p, 0⟩ 1).2 = ⟨[], 3⟩ := by
        simp only [upTo, intS, uintS_prefix (zz_lt hn.1 hn.2) h2 hq']
      rw [h1, upTo_err (by simp)]
theorem readV_prefix {x : V} (h : Good x) {p q : List UInt8} (hpq : p ++ q = encV x) (hq : q ≠ []) : (readV x.k ⟨p, 0⟩).2.e = 3 := by
  obtain ⟨k, u, n, b, l⟩ := x
  match k, h with
  | 0, h =>
    obtain ⟨h1, rfl, rfl, rfl⟩ := h
    simp only [readV, uintS_prefix h1 hpq hq]
  | 1, h =>
    obtain ⟨rfl, h1, rfl, rfl⟩ := h
    simp only [readV, intS, uintS_prefix (zz_lt h1.1 h1.2) hpq hq]
  | 2, h =>
    simp only [encV] at hpq
    match p, hpq with
    | [], _ => simp [readV, boolS]
    | c :: p, hpq =>
      simp at hpq
      exact absurd hpq.2.2 hq
  | 3, h =>
    obtain ⟨rfl, rfl, h1, rfl⟩ := h
    simp only [encV] at hpq
    rcases app_cut hpq with ⟨p', rfl, h2⟩ | ⟨q', hq', h2⟩
    · have : p'.length < b.length := by
        rw [← h2, List.length_append]
        have := List.length_pos_iff.2 hq
        omega
      simp [readV, partS, lenS_short (show b.length < 18446744073709551616 by omega) p' this]
    · simp [readV, partS, lenS_prefix (show b.length < 18446744073709551616 by omega) h2 hq']
  | 4, h =>
    obtain ⟨rfl, rfl, h1, rfl⟩ := h
    simp only [encV] at hpq
    rcases app_cut hpq with ⟨p', rfl, h2⟩ | ⟨q', hq', h2⟩
    · have : p'.length < b.length := by
        rw [← h2, List.length_append]
        have := List.length_pos_iff.2 hq
        omega
      simp [readV, partS, lenS_short (show b.length < 18446744073709551616 by omega) p' this]
    · simp [readV, partS, lenS_prefix (show b.length < 18446744073709551616 by omega) h2 hq']
  | k + 5, h =>
    obtain ⟨rfl, rfl, rfl, h1, h3⟩ := h
    simp only [encV] at hpq
    rcases app_cut hpq with ⟨p', rfl, h2⟩ | ⟨q', hq', h2⟩
    · by_cases hs : p'.length < l.length
      · have hu := lenS_short (show l.length < 18446744073709551616 by omega) p' hs
        simp [readV, intsS, hu, upTo]
      · have hu := lenS_rt (show l.length < 18446744073709551616 by omega) p' (by omega)
        have := upTo_prefix l p' q h3 h2 hq
        simp only [readV, intsS, hu]
        split
        · exact this
        · rename_i hn; rw [this] at hn; exact absurd (by decide) hn
    · have hu := lenS_prefix (show l.length < 18446744073709551616 by omega) h2 hq'
      simp [readV, intsS, hu, upTo]

/-- The reader behind a list of values' kinds. -/
def readAll (s : St) (l : List V) : St := l.foldl (fun s x => (readV x.k s).2) s
theorem readAll_snoc (s : St) (l : List V) (x : V) : readAll s (l ++ [x]) = (readV x.k (readAll s l)).2 := by simp [readAll]
theorem readAll_cons (s : St) (l : List V) (x : V) : readAll s (x :: l) = readAll (readV x.k s).2 l := rfl
theorem readAll_err {s : St} (h : s.e ≠ 0) (l : List V) : readAll s l = s := by
  induction l with
  | nil => rfl
  | cons x l ih => rw [readAll_cons, readV_err _ h]; exact ih
theorem readAll_rt (r : List UInt8) : ∀ l : List V, (∀ x ∈ l, Good x) → readAll ⟨encs l ++ r, 0⟩ l = ⟨r, 0⟩ := by
  intro l
  induction l with
  | nil => intro _; rfl
  | cons x l ih =>
    intro h
    rw [readAll_cons, encs_cons, List.append_assoc, readV_rt (h x (List.mem_cons_self ..))]
    exact ih fun y hy => h y (List.mem_cons_of_mem _ hy)
theorem readAll_prefix : ∀ (l : List V) (p q : List UInt8), (∀ x ∈ l, Good x) → p ++ q = encs l → q ≠ [] → (readAll ⟨p, 0⟩ l).e = 3 := by
  intro l
  induction l with
  | nil => intro p q _ h hq; simp [encs] at h; exact absurd h.2 hq
  | cons x l ih =>
    intro p q h hpq hq
    have hx := h x (List.mem_cons_self ..)
    rw [readAll_cons]
    rw [encs_cons] at hpq
    rcases app_cut hpq with ⟨p', rfl, h2⟩ | ⟨q', hq', h2⟩
    · rw [readV_rt hx]
      exact ih p' q (fun y hy => h y (List.mem_cons_of_mem _ hy)) h2 hq
    · have := readV_prefix hx h2 hq'
      rw [readAll_err (by rw [this]; decide)]
      exact this
theorem readV_e (k : Nat) {s : St} (h : s.e ≠ 0) : (readV k s).2.e ≠ 0 := by rw [readV_err k h]; exact h
end Go.Proofs.Ytpcliampffeknaa
