/- Values in memory, and the contracts of the law's write and encode and of the reference's Encode. -/
import Derived.Test.YtgcgifjfgmhhmaaWRf
namespace Go.Proofs.Ytgcgifjfgmhhmaa
open Go.RowKit

theorem ba_size (b : List UInt8) : (ByteArray.mk b.toArray).size = b.length := by
  show b.toArray.size = _
  simp
/-- What may stand in a value: its kind, numbers in range, parts that are not long. -/
structure Fit (x : V) : Prop where
  k : x.k ≤ 5
  u : x.u < 18446744073709551616
  n : ok64 x.n
  b : x.b.length ≤ 1000
  l : x.l.length ≤ 1000
  o : ∀ y ∈ x.l, ok64 y
/-- A value with its two slices. -/
structure Y where
  x : V
  sb : Value
  sl : Value
def Y.In (y : Y) (w : World) (ok : Nat → Prop) : Prop := Proofs.Ytgcgifjfgmhhmaa.In .u8 w ok y.sb (bI y.x.b) ∧ Proofs.Ytgcgifjfgmhhmaa.In .i64 w ok y.sl y.x.l
def Y.cells (y : Y) : List Value := [.int .i64 y.x.k, .int .u64 y.x.u, .int .i64 y.x.n, y.sb, y.sl]
def Y.agg (y : Y) : Value := .agg #[.int .i64 y.x.k, .int .u64 y.x.u, .int .i64 y.x.n, y.sb, y.sl]
def cells5 (ys : List Y) : List Value := ys.flatMap Y.cells
theorem Y.In.kp {y : Y} {w w' : World} {ok t : Nat → Prop} (h : y.In w ok) (hk : Kp t w w') (ht : ∀ b, b < w.heap.size → ok b → ¬ t b) : y.In w' ok := ⟨h.1.kp hk ht, h.2.kp hk ht⟩
theorem Y.In.mono {y : Y} {w : World} {ok ok' : Nat → Prop} (h : y.In w ok) (ho : ∀ b, b < w.heap.size → ok b → ok' b) : y.In w ok' := ⟨h.1.mono ho, h.2.mono ho⟩
theorem Y.In.new {y : Y} {w w' : World} {ok : Nat → Prop} (h : y.In w ok) (hb : Below w.heap.size w w') : y.In w' ok := ⟨h.1.new hb, h.2.new hb⟩

theorem cells5_len (ys : List Y) : (cells5 ys).length = 5 * ys.length := by
  induction ys with
  | nil => rfl
  | cons y ys ih => simp only [cells5, List.flatMap_cons, List.length_append, List.length_cons, Y.cells, List.length_nil] at ih ⊢; omega
theorem cells5_cons (y : Y) (ys : List Y) : cells5 (y :: ys) = .int .i64 y.x.k :: .int .u64 y.x.u :: .int .i64 y.x.n :: y.sb :: y.sl :: cells5 ys := rfl
theorem cells5_get : ∀ (ys : List Y) (j : Nat) (y : Y), ys[j]? = some y → ∀ i, i < 5 → (cells5 ys)[5 * j + i]? = y.cells[i]?
  | [], j, y, h, _, _ => by simp at h
  | z :: ys, 0, y, h, i, hi => by
    simp only [List.getElem?_cons_zero, Option.some.injEq] at h
    subst h
    rw [cells5_cons]
    match i, hi with
    | 0, _ => rfl
    | 1, _ => rfl
    | 2, _ => rfl
    | 3, _ => rfl
    | 4, _ => rfl
  | z :: ys, j + 1, y, h, i, hi => by
    simp only [List.getElem?_cons_succ] at h
    rw [cells5_cons, show 5 * (j + 1) + i = (5 * j + i) + 1 + 1 + 1 + 1 + 1 by omega]
    simp only [List.getElem?_cons_succ]
    exact cells5_get ys j y h i hi
theorem cells5_snoc (ys : List Y) (y : Y) : cells5 (ys ++ [y]) = cells5 ys ++ y.cells := by simp [cells5]
theorem cells5_append (ys zs : List Y) : cells5 (ys ++ zs) = cells5 ys ++ cells5 zs := by simp [cells5]
theorem Y.cell_one (y : Y) (w : World) (ok : Nat → Prop) (h : y.In w ok) : ∀ u ∈ y.cells, u.oneCell' = true := by
  obtain ⟨h1, h2⟩ := h
  obtain ⟨a1, c1, e1⟩ := h1.form
  obtain ⟨a2, c2, e2⟩ := h2.form
  intro u hu
  simp only [Y.cells, List.mem_cons, List.not_mem_nil, or_false] at hu
  rcases hu with rfl | rfl | rfl | rfl | rfl
  · rfl
  · rfl
  · rfl
  · rw [e1]; rfl
  · rw [e2]; rfl

/-- The slice value reads as the values ys; all lies in blocks of the kind ok. -/
def Vs (w : World) (ok : Nat → Prop) (sv : Value) (ys : List Y) : Prop :=
  ((sv = .slice none 0 0 ∧ ys = []) ∨ ∃ g c, sv = .slice (some ⟨g, 0, none⟩) ys.length c ∧ ys.length ≤ c ∧ ok g ∧ g < w.heap.size ∧ ∀ j u, (cells5 ys)[j]? = some u → w.cell? ⟨g, j, none⟩ = some u) ∧ ∀ y ∈ ys, y.In w ok
section
variable {w w' : World} {ok ok' t : Nat → Prop} {sv : Value} {ys : List Y}
theorem Vs.kp (h : Vs w ok sv ys) (hk : Kp t w w') (ht : ∀ b, b < w.heap.size → ok b → ¬ t b) : Vs w' ok sv ys := by
  refine ⟨?_, fun y hy => (h.2 y hy).kp hk ht⟩
  rcases h.1 with h | ⟨g, c, h1, h2, h3, h4, h5⟩
  · exact .inl h
  · exact .inr ⟨g, c, h1, h2, h3, Nat.lt_of_lt_of_le h4 hk.size, fun j u hj => (hk.cell (p := ⟨g, j, none⟩) h4 (ht g h4 h3)).trans (h5 j u hj)⟩
theorem Vs.mono (h : Vs w ok sv ys) (ho : ∀ b, b < w.heap.size → ok b → ok' b) : Vs w ok' sv ys := by
  refine ⟨?_, fun y hy => (h.2 y hy).mono ho⟩
  rcases h.1 with h | ⟨g, c, h1, h2, h3, h4, h5⟩
  · exact .inl h
  · exact .inr ⟨g, c, h1, h2, ho g h4 h3, h4, h5⟩
theorem Vs.new (h : Vs w ok sv ys) (hb : Below w.heap.size w w') : Vs w' ok sv ys := h.kp (t := fun _ => False) (Kp.new hb) fun _ _ _ e => e
theorem Vs.lt (h : Vs w ok sv ys) : Vs w (· < w.heap.size) sv ys := h.mono fun _ hb _ => hb
theorem Vs.lt_below {g : Nat} (h : Vs w (· < g) sv ys) (hb : Below g w w') : Vs w' (· < g) sv ys :=
  h.kp (t := (g ≤ ·)) (Kp.of_below hb fun _ _ h => h) fun _ _ hb => Nat.not_le_of_lt hb
theorem Vs.form (h : Vs w ok sv ys) : ∃ a c, sv = .slice a ys.length c := by
  rcases h.1 with ⟨rfl, rfl⟩ | ⟨g, c, rfl, _⟩
  · exact ⟨none, 0, rfl⟩
  · exact ⟨_, c, rfl⟩
theorem Vs.len {a : Option Addr} {n c : Nat} (h : Vs w ok (.slice a n c) ys) : n = ys.length ∧ n ≤ c := by
  rcases h.1 with ⟨h0, rfl⟩ | ⟨g, c', h1, h2, _⟩
  · injection h0 with _ h1 h2; subst h1 h2; exact ⟨rfl, Nat.le_refl _⟩
  · injection h1 with _ h1 h3; subst h1 h3; exact ⟨rfl, h2⟩
theorem Vs.at_ {a : Option Addr} {n c : Nat} (h : Vs w ok (.slice a n c) ys) {j : Nat} {y : Y} (hj : ys[j]? = some y) :
    ∃ g, a = some ⟨g, 0, none⟩ ∧ ok g ∧ g < w.heap.size ∧ y.In w ok ∧ w.cell? ⟨g, j * 5, none⟩ = some (.int .i64 y.x.k) ∧ w.cell? ⟨g, j * 5 + 1, none⟩ = some (.int .u64 y.x.u) ∧ w.cell? ⟨g, j * 5 + 2, none⟩ = some (.int .i64 y.x.n)
      ∧ w.cell? ⟨g, j * 5 + 3, none⟩ = some y.sb ∧ w.cell? ⟨g, j * 5 + 4, none⟩ = some y.sl := by
  have hin := h.2 y (List.mem_of_getElem? hj)
  rcases h.1 with ⟨_, rfl⟩ | ⟨g, c', h1, _, h3, h4, h5⟩
  · simp at hj
  · injection h1 with h1
    have hg := cells5_get ys j y hj
    rw [Nat.mul_comm 5 j] at hg
    exact ⟨g, h1, h3, h4, hin, h5 _ _ (hg 0 (by decide)), h5 _ _ (hg 1 (by decide)), h5 _ _ (hg 2 (by decide)), h5 _ _ (hg 3 (by decide)), h5 _ _ (hg 4 (by decide))⟩
theorem Vs.own {base e n : Nat} (h : w.ownsRow base e 5 sv n (cells5 ys)) (hn : n = ys.length) (hi : ∀ y ∈ ys, y.In w ok) (ho : ∀ b, base ≤ b → b < w.heap.size → ok b) : Vs w ok sv ys := by
  subst hn
  refine ⟨?_, hi⟩
  rcases h.2 with ⟨rfl, h0⟩ | ⟨g, cap, cur, rfl, hb, hh, hc, _⟩
  · exact .inl ⟨rfl, List.eq_nil_of_length_eq_zero h0⟩
  · have hlt := (Array.getElem?_eq_some_iff.1 hh).1
    refine .inr ⟨g, cap, rfl, hc, ho g hb hlt, hlt, fun j u hj => ?_⟩
    have := h.cells (g := g) rfl j _ hj
    rwa [Go.WideShapes.add_plain, Nat.zero_add] at this
end

set_option maxHeartbeats 1600000 in
theorem write_any (y : Y) (g : Nat) (bs : List UInt8) (w : World) (hx : Fit y.x) (hy : y.In w (· < g)) (h : Wr w g bs) (hl : bs.length ≤ 800000) :
    Calls Try.prog 14 #[.pointer (some ⟨g, 0, none⟩), y.agg] w fun e w' => e = .returned (.tuple #[]) ∧ Wr w' g (bs ++ encV y.x) ∧ Below g w w' := by
  obtain ⟨⟨k, u, n, b, l⟩, sb, sl⟩ := y
  obtain ⟨hk, hu, hn, hb, hll, ho⟩ := hx
  obtain ⟨hi1, hi2⟩ := hy
  dsimp only at hk hu hn hb hll ho hi1 hi2
  have HB0 : ∀ o, Below w.heap.size w (w.alloc o) := fun o => (Below.refl _ w).alloc (Nat.le_refl _) o
  have HG := Lib.hid (Nat.le_of_lt h.lt)
  match k, hk with
  | 0, _ =>
    have HU := Lib.hid hu
    have HW := Lib.hid (fun o => h.new (HB0 o))
    have HB := Lib.hid HB0
    clear hu hn hb hll ho hi1 hi2 HB0 h
    show Calls Try.prog 14 #[.pointer (some ⟨g, 0, none⟩), .agg #[.int .i64 0, .int .u64 u, .int .i64 n, sb, sl]] w _
    go_enter Try.func14, Try.ntmps14
    go_wp2_with fail
    refine (wuint_any u g bs _ HU.out (HW.out _) (by omega)).mono ?_
    rintro e w' ⟨rfl, hw', hb'⟩
    go_wp2
    go_end0
    exact ⟨rfl, hw', ((HB.out _).mono HG.out).trans hb'⟩
  | 1, _ =>
    have HU := Lib.hid hn
    have HW := Lib.hid (fun o => h.new (HB0 o))
    have HB := Lib.hid HB0
    clear hu hn hb hll ho hi1 hi2 HB0 h
    show Calls Try.prog 14 #[.pointer (some ⟨g, 0, none⟩), .agg #[.int .i64 1, .int .u64 u, .int .i64 n, sb, sl]] w _
    go_enter Try.func14, Try.ntmps14
    go_wp2_with fail
    refine (wint_any n g bs _ HU.out (HW.out _) (by omega)).mono ?_
    rintro e w' ⟨rfl, hw', hb'⟩
    go_wp2
    go_end0
    exact ⟨rfl, hw', ((HB.out _).mono HG.out).trans hb'⟩
  | 2, _ =>
    have HW := Lib.hid (fun o => h.new (HB0 o))
    have HB := Lib.hid HB0
    clear hu hn hb hll ho hi1 hi2 HB0 h
    show Calls Try.prog 14 #[.pointer (some ⟨g, 0, none⟩), .agg #[.int .i64 2, .int .u64 u, .int .i64 n, sb, sl]] w _
    go_enter Try.func14, Try.ntmps14
    go_wp2_with fail
    refine (wbool_any (n == 1) g bs _ (HW.out _) (by omega)).mono ?_
    rintro e w' ⟨rfl, hw', hb'⟩
    go_wp2
    go_end0
    exact ⟨rfl, by simpa [encV] using hw', ((HB.out _).mono HG.out).trans hb'⟩
  | 3, _ =>
    obtain ⟨a, c, rfl⟩ := hi1.form
    have HW := Lib.hid (fun o => h.new (HB0 o))
    have hconv := fun o => (hi1.new (HB0 o)).text (P := Try.prog) (src := 24) (dst := 9) (e := 5) Try.underlying24 Try.underlying5 Try.underlying9
    have HB := Lib.hid HB0
    have HL := Lib.hid hb
    rw [bI_len] at hconv ⊢
    clear hu hn hb hll ho hi1 hi2 HB0 h
    show Calls Try.prog 14 #[.pointer (some ⟨g, 0, none⟩), .agg #[.int .i64 3, .int .u64 u, .int .i64 n, .slice a b.length c, sl]] w _
    go_enter Try.func14, Try.ntmps14
    go_wp2_with fail
    refine (wtext_any ⟨b.toArray⟩ g bs _ (by rw [ba_size]; exact HL.out) (HW.out _) (by omega)).mono ?_
    rintro e w' ⟨rfl, hw', hb'⟩
    go_wp2
    go_end0
    exact ⟨rfl, by rw [ba_size] at hw'; simpa [encV] using hw', ((HB.out _).mono HG.out).trans hb'⟩
  | 4, _ =>
    obtain ⟨a, c, rfl⟩ := hi1.form
    have HW := Lib.hid (fun o => h.new (HB0 o))
    have HI := Lib.hid (fun o => hi1.new (HB0 o))
    have HB := Lib.hid HB0
    have HL := Lib.hid hb
    rw [bI_len] at HI ⊢
    clear hu hn hb hll ho hi1 hi2 HB0 h
    show Calls Try.prog 14 #[.pointer (some ⟨g, 0, none⟩), .agg #[.int .i64 4, .int .u64 u, .int .i64 n, .slice a b.length c, sl]] w _
    go_enter Try.func14, Try.ntmps14
    go_wp2_with fail
    refine (wraw_any b _ _ _ g bs _ rfl HL.out (HI.out _) (HW.out _) (by omega)).mono ?_
    rintro e w' ⟨rfl, hw', hb'⟩
    go_wp2
    go_end0
    exact ⟨rfl, hw', ((HB.out _).mono HG.out).trans hb'⟩
  | 5, _ =>
    obtain ⟨a, c, rfl⟩ := hi2.form
    have HW := Lib.hid (fun o => h.new (HB0 o))
    have HI := Lib.hid (fun o => hi2.new (HB0 o))
    have HB := Lib.hid HB0
    have HL := Lib.hid hll
    have HO := Lib.hid ho
    clear hu hn hb hll ho hi1 hi2 HB0 h
    show Calls Try.prog 14 #[.pointer (some ⟨g, 0, none⟩), .agg #[.int .i64 5, .int .u64 u, .int .i64 n, sb, .slice a l.length c]] w _
    go_enter Try.func14, Try.ntmps14
    go_wp2_with fail
    refine (wints_any l _ _ _ g bs _ rfl HL.out HO.out (HI.out _) (HW.out _) (by omega)).mono ?_
    rintro e w' ⟨rfl, hw', hb'⟩
    go_wp2
    go_end0
    exact ⟨rfl, hw', ((HB.out _).mono HG.out).trans hb'⟩

theorem encV_len {x : V} (h : Fit x) : (encV x).length ≤ 10010 := by
  obtain ⟨k, u, n, b, l⟩ := x
  obtain ⟨hk, hu, hn, hb, hl, ho⟩ := h
  have hol : ∀ l : List Int, (∀ y ∈ l, ok64 y) → (ofInts l).length ≤ 10 * l.length := by
    intro l
    induction l with
    | nil => intro _; simp [ofInts]
    | cons y l ih =>
      intro h
      have h1 := uv_len10 (zz_lt (h y (List.mem_cons_self ..)).1 (h y (List.mem_cons_self ..)).2)
      have h2 := ih fun z hz => h z (List.mem_cons_of_mem _ hz)
      simp only [ofInts, List.flatMap_cons, List.length_append, List.length_cons] at h2 ⊢
      omega
  dsimp only at hk hu hn hb hl ho
  match k, hk with
  | 0, _ => have := uv_len10 hu; simp only [encV]; omega
  | 1, _ => have := uv_len10 (zz_lt hn.1 hn.2); simp only [encV]; omega
  | 2, _ => simp [encV]
  | 3, _ => have := uv_len10 (n := b.length) (by omega); simp only [encV, List.length_append]; omega
  | 4, _ => have := uv_len10 (n := b.length) (by omega); simp only [encV, List.length_append]; omega
  | 5, _ => have := uv_len10 (n := l.length) (by omega); have := hol l ho; simp only [encV, List.length_append]; omega
def xs (ys : List Y) : List V := ys.map Y.x
theorem encs_take_succ {ys : List Y} {j : Nat} {y : Y} (h : ys[j]? = some y) : encs (xs (ys.take (j + 1))) = encs (xs (ys.take j)) ++ encV y.x := by
  rw [List.take_add_one, h, xs, List.map_append, ← xs]
  exact encs_snoc _ _
theorem encs_len {ys : List Y} (h : ∀ y ∈ ys, Fit y.x) : (encs (xs ys)).length ≤ 10010 * ys.length := by
  induction ys with
  | nil => simp [encs, xs]
  | cons y ys ih =>
    have h1 := encV_len (h y (List.mem_cons_self ..))
    have h2 := ih fun z hz => h z (List.mem_cons_of_mem _ hz)
    simp only [encs, xs, List.map_cons, List.flatMap_cons, List.length_append, List.length_cons] at h2 ⊢
    omega

set_option maxHeartbeats 1600000 in
theorem encode_any (ys : List Y) (A : Option Addr) (n c : Nat) (ok : Nat → Prop) (w : World) (hf : ∀ y ∈ ys, Fit y.x) (hn : ys.length = n) (hl : n ≤ 40) (h : Vs w ok (.slice A n c) ys) :
    Calls Try.prog 26 #[.slice A n c] w (Fresh .u8 5 (bI (encs (xs ys))) w) := by
  have HN := Lib.hid hn
  have HF := Lib.hid hf
  have hw0 := Wr.zero w
  have hb0 := (Below.refl w.heap.size w).alloc (Nat.le_refl _) (.cells #[.slice none 0 0] 32)
  have HV := Lib.hid (h.lt.new hb0)
  have HW := Lib.hid hw0
  clear hn hf h hw0
  go_enter Try.func26, Try.ntmps26
  go_wp2
  go_loopw [4] (fun i wr => ∃ j : Nat, j ≤ n ∧ i = .int .i64 j ∧ Wr wr w.heap.size (encs (xs (ys.take j))) ∧ Below w.heap.size w wr ∧ Vs wr (· < w.heap.size) (.slice A n c) ys) (fun i _ => n - (intOf i).toNat)
  case atStart => exact ⟨0, Nat.zero_le _, rfl, HW.out, hb0, HV.out⟩
  case round =>
    obtain ⟨j, hj, rfl, hw, hb, hv⟩ := hrel
    have HW2 := Lib.hid hw
    have HV2 := Lib.hid hv
    clear hw hv
    by_cases hlt : j < n
    · have hjl : j < ys.length := by rw [HN.out]; exact hlt
      obtain ⟨y, hy⟩ : ∃ y, ys[j]? = some y := ⟨_, List.getElem?_eq_getElem hjl⟩
      obtain ⟨g, rfl, hg1, hg2, hyi, hc0, hc1, hc2, hc3, hc4⟩ := HV2.out.at_ hy
      have HS := Lib.hid (encs_take_succ hy)
      have HFY := Lib.hid (HF.out y (List.mem_of_getElem? hy))
      have HYI := Lib.hid hyi
      have HLE := Lib.hid (show (encs (xs (ys.take j))).length ≤ 800000 by
        have := encs_len (ys := ys.take j) (fun z hz => HF.out z (List.mem_of_mem_take hz))
        have h2 : (ys.take j).length ≤ 40 := by rw [List.length_take]; omega
        omega)
      clear hy hyi
      go_wp2_with fail
      refine (write_any y w.heap.size _ wr HFY.out HYI.out HW2.out HLE.out).mono ?_
      rintro e w3 ⟨rfl, hw3, hb3⟩
      have hb4 := hb.trans hb3
      have HV3 := Lib.hid (HV2.out.lt_below hb3)
      go_wp2
      go_roundw
      case rel => exact ⟨j + 1, by omega, by go_num, by rw [HS.out]; exact hw3, hb4, HV3.out⟩
      case measure => simp [intOf]; omega
    · have he : ys.take j = ys := List.take_of_length_le (by rw [HN.out]; omega)
      rw [he] at HW2
      have HLE := Lib.hid (show (encs (xs ys)).length ≤ 2000000 by
        have := encs_len HF.out
        rw [HN.out] at this
        omega)
      clear he
      go_wp2_with fail
      refine (wdone_any w.heap.size _ wr HW2.out HLE.out).mono ?_
      rintro e w3 ⟨a3, c3, rfl, hown, hb3⟩
      go_wp2
      go_ret
      exact ⟨a3, c3, rfl, own_base hown hb.size, hb.trans (hb3.mono hb.size)⟩
end Go.Proofs.Ytgcgifjfgmhhmaa
