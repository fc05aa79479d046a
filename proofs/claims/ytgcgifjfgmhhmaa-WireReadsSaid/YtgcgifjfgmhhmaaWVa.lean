/- The contract of the reference's Vals: some values, at most eight, as a reader returns them, in new memory. -/
import Derived.Test.YtgcgifjfgmhhmaaWLv
import Derived.Deep.RegionLaw
import Derived.Deep.DeepCutAuto
namespace Go.Proofs.Ytgcgifjfgmhhmaa
open Go.RowKit

theorem val_info : (Try.prog.info? 28).map (fun i => (i.zero, i.size, i.bytes)) = some (some (.agg #[.int .i64 0, .int .u64 0, .int .i64 0, .slice none 0 0, .slice none 0 0]), 5, 72) := by kernel_rfl
theorem In.in_lt {k : IntKind} {w : World} {ok : Nat → Prop} {sv : Value} {zs : List Int} (h : In k w ok sv zs) : In k w (fun b => ok b ∧ b < w.heap.size) sv zs := h.mono fun _ h1 h2 => ⟨h2, h1⟩
theorem Y.in_lt (y : Y) {w : World} {ok : Nat → Prop} (h : y.In w ok) : y.In w (fun b => ok b ∧ b < w.heap.size) := ⟨h.1.in_lt, h.2.in_lt⟩
theorem five_new (w : World) (v0 v1 v2 v3 v4 : Value) (t : TypeId) : ∀ j u, [v0, v1, v2, v3, v4][j]? = some u → (w.alloc (.cells #[v0, v1, v2, v3, v4] t)).cell? ((⟨w.heap.size, 0, none⟩ : Addr).add j) = some u := by
  intro j u hj
  rw [Go.WideShapes.add_plain, Nat.zero_add]
  have h := World.alloc_heap_new w (.cells #[v0, v1, v2, v3, v4] t)
  rw [cell_of_row _ _ j _ _ _ h]
  simpa using hj
theorem five_new2 (w : World) (o : Obj) (v0 v1 v2 v3 v4 : Value) (t : TypeId) : ∀ j u, [v0, v1, v2, v3, v4][j]? = some u → ((w.alloc o).alloc (.cells #[v0, v1, v2, v3, v4] t)).cell? ((⟨w.heap.size + 1, 0, none⟩ : Addr).add j) = some u := by
  have h := five_new (w.alloc o) v0 v1 v2 v3 v4 t
  rw [World.size_alloc] at h
  exact h
theorem five_one {v0 v1 v2 v3 v4 : Value} (h0 : v0.oneCell' = true) (h1 : v1.oneCell' = true) (h2 : v2.oneCell' = true) (h3 : v3.oneCell' = true) (h4 : v4.oneCell' = true) : ∀ u ∈ [v0, v1, v2, v3, v4], u.oneCell' = true := by
  intro u hu
  simp only [List.mem_cons, List.not_mem_nil, or_false] at hu
  rcases hu with rfl | rfl | rfl | rfl | rfl <;> assumption
/-- Values that are short. -/
structure Short (x : V) : Prop where
  good : Good x
  fit : Fit x
  b : x.b.length ≤ 200
  l : x.l.length ≤ 20
def Tiny (x : V) : Prop := x.b.length ≤ 9 ∧ x.l.length ≤ 4
/-- From block B on, and not in the row of v. -/
def Off (B : Nat) (v : Value) (b : Nat) : Prop := B ≤ b ∧ v.ownBlock ≠ some b
theorem keepY {W w1 : World} {B : Nat} {v v' : Value} {y : Y} (hy : y.In W (Off B v)) (hg : W.grownBy w1 v.ownBlock) (hat : v'.ownBlock = v.ownBlock ∨ v'.ownBlock = some W.heap.size) : y.In w1 (Off B v') := by
  have hk : Kp (fun b => v.ownBlock = some b ∨ W.heap.size ≤ b) W w1 := (Kp.refl _ W).grown hg (fun k hk _ => .inl hk)
  have h1 : y.In W (fun b => Off B v b ∧ b < W.heap.size) := y.in_lt hy
  refine (h1.kp hk (fun b hb h e => ?_)).mono (fun b _ h => ⟨h.1.1, ?_⟩)
  · rcases e with e | e
    · exact h.1.2 e
    · omega
  · rcases hat with e | e
    · rw [e]; exact h.1.2
    · rw [e]
      intro e2
      injection e2 with e2
      have := h.2
      omega
theorem row_done {w W w1 : World} {v v' : Value} {ys : List Y} {y : Y} {j : Nat} {cs zs : List Value} (hyl : ys.length = j) (hys : ∀ y ∈ ys, Short y.x ∧ y.In W (Off w.heap.size v)) (hown : W.ownsRow w.heap.size 28 5 v j zs)
    (hown' : w1.ownsRow w.heap.size 28 5 v' (j + 1) (cells5 ys ++ cs)) (hgrow : W.grownBy w1 v.ownBlock) (hat : v'.ownBlock = v.ownBlock ∨ v'.ownBlock = some W.heap.size) (hb : Below w.heap.size w W)
    (hs : Short y.x) (hty : Tiny y.x) (htys : ∀ y ∈ ys, Tiny y.x) (hy : y.In W (Off w.heap.size v)) (hc : cs = y.cells) :
    ∃ ys' : List Y, ys'.length = j + 1 ∧ w1.ownsRow w.heap.size 28 5 v' (j + 1) (cells5 ys') ∧ (∀ y ∈ ys', (Short y.x ∧ y.In w1 (Off w.heap.size v')) ∧ Tiny y.x) ∧ Below w.heap.size w w1 := by
  refine ⟨ys ++ [y], by rw [List.length_append, hyl]; rfl, by rw [cells5_snoc, ← hc]; exact hown', fun z hz => ?_, hb.grown hgrow hb.size (own_block_ge hown)⟩
  rcases List.mem_append.1 hz with hz | hz
  · exact ⟨⟨(hys z hz).1, keepY (hys z hz).2 hgrow hat⟩, htys z hz⟩
  · simp only [List.mem_singleton] at hz
    subst hz
    exact ⟨⟨hs, keepY hy hgrow hat⟩, hty⟩
/-- A new slice of values. -/
def ValsOut (most : Nat) (w : World) (e : Ending) (w' : World) : Prop :=
  ∃ a c ys, e = .returned (.slice a (ys : List Y).length c) ∧ ys.length ≤ most ∧ w'.ownsRow w.heap.size 28 5 (.slice a ys.length c) ys.length (cells5 ys) ∧ (∀ y ∈ ys, Short y.x ∧ y.In w' (Off w.heap.size (.slice a ys.length c))) ∧ Below w.heap.size w w' ∧ ∀ y ∈ ys, Tiny y.x
theorem B5.not_row {w : World} {b : Nat} {v0 v1 v2 v3 v4 : Value} (h : B5 w b v0 v1 v2 v3 v4) {base size n : Nat} {e : TypeId} {v : Value} {zs : List Value} (hr : w.ownsRow base e size v n zs) (he : e ≠ 28) : some b ≠ v.ownBlock := by
  rcases hr.2 with ⟨rfl, _⟩ | ⟨g, cap, cur, rfl, _, hg, _⟩
  · simp [Value.ownBlock]
  · intro e2
    obtain rfl : b = g := by simpa [Value.ownBlock] using e2
    unfold B5 at h
    rw [h] at hg
    injection hg with hg
    injection hg with _ hg
    exact he hg.symm
theorem B5.set3 {w : World} {b : Nat} {v0 v1 v2 v3 v4 : Value} (h : B5 w b v0 v1 v2 v3 v4) (u : Value) : B5 (w.setCell ⟨b, 3, none⟩ u) b v0 v1 v2 u v4 := by
  unfold B5 at h ⊢
  simp [World.setCell, Array.getElem?_modify, h]
theorem B5.set4 {w : World} {b : Nat} {v0 v1 v2 v3 v4 : Value} (h : B5 w b v0 v1 v2 v3 v4) (u : Value) : B5 (w.setCell ⟨b, 4, none⟩ u) b v0 v1 v2 v3 u := by
  unfold B5 at h ⊢
  simp [World.setCell, Array.getElem?_modify, h]
theorem B5.appended {W w1 : World} {b k m i : Nat} {v0 v1 v2 v3 v4 sv v' : Value} {e : TypeId} {zs ys : List Value} {tmp : Obj} (hv : B5 W b v0 v1 v2 v3 v4) (he : e ≠ 28) (hrow : W.ownsRow b e 1 sv k zs)
    (hown' : w1.ownsRow b e 1 v' m ys) (hgrow : (W.alloc tmp).grownBy w1 sv.ownBlock) :
    B5 w1 b v0 v1 v2 v3 v4 ∧ (w1.setCell ⟨b, i, none⟩ v').ownsRow b e 1 v' m ys ∧ Below b W (w1.setCell ⟨b, i, none⟩ v') := by
  have hlt := hv.lt
  have hv0 : B5 (W.alloc tmp) b v0 v1 v2 v3 v4 := (Below.heap_alloc _ _ _ hlt).trans hv
  have hv1 : B5 w1 b v0 v1 v2 v3 v4 := (hgrow.block b (by simp; omega) (hv.not_row hrow he)).trans hv0
  refine ⟨hv1, ?_, ?_⟩
  · have hne := hv1.not_row hown' he
    refine ⟨hown'.1, ?_⟩
    rcases hown'.2 with h0 | ⟨g, cap, cur, rfl, h2, h3, h4⟩
    · exact .inl h0
    · exact .inr ⟨g, cap, cur, rfl, h2, (Below.heap_setCell _ _ _ _ (fun e2 => hne (by simp [Value.ownBlock, e2]))).trans h3, h4⟩
  · exact (((Below.refl b W).alloc (Nat.le_of_lt hlt) tmp).grown hgrow (alloc_ge (Nat.le_of_lt hlt)) (own_block_ge hrow)).setCell (p := ⟨b, i, none⟩) (Nat.le_refl _) _
/-- append onto a row of the call's own, as one step of a region that draws. -/
theorem step_append_own {P : Program} {ops : Array Oper} {o : Oper} {a : Act} {w : World} {K : Act → World → Prop} {Q : Exit → Act → World → Prop} {E : Prop} (hg : o.guard = none) (s x : Operand) (t : TypeId)
    (ho : o.op = .call { callee := .builtin .append, args := #[s, x], argTypes := #[t, t] })
    (base : Nat) (e : TypeId) (i : TypeInfo) (z : Value) (size bytes : Nat) (ht : P.underlying t = some (.slice e)) (hi : P.info? e = some i) (hz : i.zero = some z)
    (hsize : i.size = size) (hby : i.bytes = bytes) (hzs : z.cells.size = size) (hsz : 0 < size)
    (v : Value) (n : Nat) (xs : List Value) (hs : a.eval s = v) (hown : w.ownsRow base e size v n xs)
    (ad : Addr) (m c : Nat) (news : List Value) (hx : a.eval x = .slice (some ad) m c) (hl : news.length = m * size) (hnews : ∀ j u, news[j]? = some u → w.cell? (ad.add j) = some u) (h1 : ∀ u ∈ news, u.oneCell' = true)
    (h63 : n + m ≤ maxLen) (hbytes : (n + m) * bytes ≤ 140737488355328) (hbase : base ≤ w.heap.size)
    (h : ∀ v' w', w'.ownsRow base e size v' (n + m) (xs ++ news) → w.grownBy w' v.ownBlock → K (a.put o.dst v') w') :
    if Region.wanted o (yielded ops a.tmps) = true then Oper.wp P o a w K Q else E := by
  have hw : Region.wanted o (yielded ops a.tmps) = true := by simp [Region.wanted, hg]
  rw [if_pos hw]
  exact wp_append_own w s x t ho base e i z size bytes ht hi hz hsize hby hzs hsz v n xs hs hown ad m c news hx hl hnews h1 h63 hbytes hbase (fun v' w' g1 g2 _ => h v' w' g1 g2)
theorem row_u8 {W : World} {base k : Nat} {v : Value} {pre : List UInt8} {X : Int} (hk : pre.length = k) (h : W.ownsRow base 5 1 v (k + 1) (vs .u8 (bI pre) ++ [.int .u8 (IntKind.u8.wrap X)])) :
    W.ownsRow base 5 1 v (k + 1) (vs .u8 (bI (pre ++ [UInt8.ofNat (IntKind.u8.wrap X).toNat]))) := by
  have hb : 0 ≤ IntKind.u8.wrap X ∧ IntKind.u8.wrap X < 256 := by rw [IntKind.wrap_u8]; omega
  have := own_snoc (x := UInt8.ofNat (IntKind.u8.wrap X).toNat) hk h (by rw [u8nat _ (by omega)]; omega)
  rw [List.length_append, hk] at this
  exact this
theorem row_i64 {W : World} {base k : Nat} {v : Value} {pre : List Int} {X : Int} (h : W.ownsRow base 3 1 v (k + 1) (vs .i64 pre ++ [.int .i64 X])) : W.ownsRow base 3 1 v (k + 1) (vs .i64 (pre ++ [X])) := by
  rw [vs_append]; exact h
theorem ok_snoc {l : List Int} {x : Int} (h : ∀ y ∈ l, ok64 y) (hx : ok64 x) : ∀ y ∈ l ++ [x], ok64 y := by
  intro y hy
  rcases List.mem_append.1 hy with hy | hy
  · exact h y hy
  · simp only [List.mem_singleton] at hy
    rw [hy]; exact hx
theorem off_own {W : World} {k : IntKind} {B V n : Nat} {e : TypeId} {sv v : Value} {zs : List Int} (h : W.ownsRow V e 1 sv n (vs k zs)) (hB : B ≤ V) (hv : ∀ b, v.ownBlock = some b → b < V) : In k W (Off B v) sv zs :=
  (In.own h).mono fun b _ hb => ⟨by omega, fun e => by have := hv b e; omega⟩
theorem src_at {k : IntKind} {w : World} {A : Option Addr} {n c j : Nat} {ls : List Int} (h : Src k w (.slice A n c) ls) (hj : j < ls.length) : ∃ ad, A = some ad ∧ (ad.add j).block < w.heap.size ∧ w.cell? (ad.add j) = some (.int k (ls.getD j 0)) := by
  rcases h with ⟨_, rfl⟩ | ⟨ad, c', h1, _, h3⟩
  · simp at hj
  · injection h1 with h1
    have hc := h3 j _ (show ls[j]? = some (ls.getD j 0) by rw [List.getD_eq_getElem?_getD, List.getElem?_eq_getElem hj]; rfl)
    exact ⟨ad, h1, World.block_lt_of_cell? w _ hc, hc⟩
theorem u64_shr (x : Int) (m : Nat) : ((IntKind.u64.wrap x / 2 ^ m).toNat : Int) = IntKind.u64.wrap x / 2 ^ m ∧ (IntKind.u64.wrap x / 2 ^ m).toNat < 18446744073709551616 := by
  have h : 0 ≤ IntKind.u64.wrap x ∧ IntKind.u64.wrap x < 18446744073709551616 := by rw [IntKind.wrap_u64]; omega
  obtain ⟨n, hn⟩ := Int.eq_ofNat_of_zero_le h.1
  rw [hn] at h ⊢
  have e : (n : Int) / 2 ^ m = ((n / 2 ^ m : Nat) : Int) := by push_cast; rfl
  have hd := Nat.div_le_self n (2 ^ m)
  rw [e]
  generalize n / 2 ^ m = q at hd
  omega
theorem i64_shr {x : Int} (h1 : -9223372036854775808 ≤ x) (h2 : x ≤ 9223372036854775807) (m : Nat) : ok64 (x / 2 ^ m) := by
  have hp : (0 : Int) < 2 ^ m := Int.pow_pos (by decide)
  have hp1 : (1 : Int) ≤ 2 ^ m := hp
  unfold ok64
  by_cases h : 0 ≤ x
  · have a := Int.ediv_nonneg h (Int.le_of_lt hp)
    have b := Int.ediv_le_self (2 ^ m) h
    omega
  · have a : x / 2 ^ m < 0 := Int.ediv_neg_of_neg_of_pos (by omega) hp
    have b : x ≤ x / 2 ^ m := by
      rw [Int.le_ediv_iff_mul_le hp]
      have := Int.mul_le_mul_of_nonpos_left (show x ≤ 0 by omega) hp1
      omega
    omega
theorem short_u {u : Nat} {p : Prop} (h : p ∧ u < 18446744073709551616) : Short ⟨0, u, 0, [], []⟩ := ⟨⟨h.2, rfl, rfl, rfl⟩, ⟨by simp, h.2, ⟨by simp, by simp⟩, by simp, by simp, fun _ h => by cases h⟩, by simp, by simp⟩
theorem short_i {n : Int} (h : ok64 n) : Short ⟨1, 0, n, [], []⟩ := ⟨⟨rfl, h, rfl, rfl⟩, ⟨by simp, by simp, h, by simp, by simp, fun _ h => by cases h⟩, by simp, by simp⟩
theorem short_b {n : Int} (h : n = 0 ∨ n = 1) : Short ⟨2, 0, n, [], []⟩ := ⟨⟨rfl, h, rfl, rfl⟩, ⟨by simp, by simp, ⟨by show _ ≤ n; omega, by show n ≤ _; omega⟩, by simp, by simp, fun _ h => by cases h⟩, by simp, by simp⟩
theorem short_t {b : List UInt8} (h : b.length ≤ 200) : Short ⟨3, 0, 0, b, []⟩ := ⟨⟨rfl, rfl, by show b.length < _; omega, rfl⟩, ⟨by simp, by simp, ⟨by simp, by simp⟩, by show b.length ≤ _; omega, by simp, fun _ h => by cases h⟩, h, by simp⟩
theorem short_r {b : List UInt8} (h : b.length ≤ 200) : Short ⟨4, 0, 0, b, []⟩ := ⟨⟨rfl, rfl, by show b.length < _; omega, rfl⟩, ⟨by simp, by simp, ⟨by simp, by simp⟩, by show b.length ≤ _; omega, by simp, fun _ h => by cases h⟩, h, by simp⟩
theorem short_l {l : List Int} (h : l.length ≤ 20) (ho : ∀ y ∈ l, ok64 y) : Short ⟨5, 0, 0, [], l⟩ := ⟨⟨rfl, rfl, rfl, by show l.length < _; omega, ho⟩, ⟨by simp, by simp, ⟨by simp, by simp⟩, by simp, by show l.length ≤ _; omega, ho⟩, by simp, h⟩
theorem tdiv6 {x : Int} (h1 : -9223372036854775808 ≤ x) (h2 : x ≤ 9223372036854775807) : (Lit.int .i64 (x.tdiv 6)).wf = true := by
  have hb : -9223372036854775808 ≤ x.tdiv 6 ∧ x.tdiv 6 ≤ 9223372036854775807 := by
    by_cases h : 0 ≤ x
    · rw [Int.tdiv_eq_ediv_of_nonneg h]; omega
    · have e : x.tdiv 6 = -((-x).tdiv 6) := by rw [← Int.neg_tdiv]; simp
      rw [e, Int.tdiv_eq_ediv_of_nonneg (by omega)]; omega
  simpa [Lit.wf, IntKind.min, IntKind.max, IntKind.signed, IntKind.bits] using hb
set_option maxRecDepth 100000 in
set_option maxHeartbeats 4000000 in
theorem vals_any (ls : List Int) (A : Option Addr) (n c : Nat) (w : World) (hn : ls.length = n) (hm : n ≤ maxLen) (hwf : ∀ x ∈ ls, (Lit.int .i64 x).wf = true) (h : Src .i64 w (.slice A n c) ls) :
    Calls Try.prog 11 #[.slice A n c] w (ValsOut 8 w) := by
  obtain ⟨i0, hi0, hz0, hz1, hz2⟩ := info_parts val_info
  obtain ⟨i5, hj0, hj1, hj2, hj3⟩ := info_parts byte_info
  obtain ⟨i3, hq0, hq1, hq2, hq3⟩ := info_parts int_info
  have HN := Lib.hid hn
  have HWF := Lib.hid hwf
  have HI := Lib.hid h
  unfold maxLen at hm
  clear hn hwf h
  go_enter Try.func11, Try.ntmps11
  go_wp2
  go_loopw [3, 4] (fun v i wr => ∃ (j : Nat) (ys : List Y), j ≤ 8 ∧ j ≤ n ∧ i = .int .i64 j ∧ ys.length = j ∧ wr.ownsRow w.heap.size 28 5 v j (cells5 ys) ∧ (∀ y ∈ ys, (Short y.x ∧ y.In wr (Off w.heap.size v)) ∧ Tiny y.x) ∧ Below w.heap.size w wr) (fun _ i _ => 8 - (intOf i).toNat)
  case atStart => exact ⟨0, [], by omega, by omega, rfl, rfl, World.ownsRow_nil _ _ _ _, (fun y hy => by cases hy), Below.refl _ _⟩
  case round =>
    obtain ⟨j, ys, hj8, hjn, rfl, hyl, hown, hys, hb⟩ := hrel
    have HYL := Lib.hid hyl
    have HOW := Lib.hid hown
    have HYT := Lib.hid (fun y hy => (hys y hy).2)
    have HYS := Lib.hid (fun y hy => (hys y hy).1)
    clear hyl hown hys
    by_cases hlt : j < n ∧ j < 8
    · obtain ⟨hlt1, hlt2⟩ := hlt
      have hjl : j < ls.length := by rw [HN.out]; exact hlt1
      obtain ⟨ad, rfl, hbs0, hcell0⟩ := src_at HI.out hjl
      have hbs := Nat.lt_of_lt_of_le hbs0 hb.size
      have hcell := (hb.cell (p := ad.add j) hbs0).trans hcell0
      clear hcell0 hbs0
      have hw1 : (Lit.int .i64 (ls.getD j 0)).wf = true := by
        rw [List.getD_eq_getElem?_getD, List.getElem?_eq_getElem hjl]
        exact HWF.out _ (List.getElem_mem _)
      obtain ⟨x, hx⟩ : ∃ x, ls.getD j 0 = x := ⟨_, rfl⟩
      rw [hx] at hcell hw1
      have hxb := i64_of_wf hw1
      obtain ⟨hx1, hx2⟩ := hxb
      have HW1 := Lib.hid hw1
      clear hx hw1
      have hd1 : decide ((j : Int) < (n : Int)) = true := by simp; omega
      have hd2 : decide ((j : Int) < 8) = true := by simp; omega
      go_wp2_with fail
      refine (around_any x 6 wr (by omega) (by omega) HW1.out).mono ?_
      rintro e w' ⟨rfl, rfl⟩
      have hk := aroundI_lt x (n := 6) (by omega)
      obtain ⟨k, hkk⟩ : ∃ k, aroundI x 6 = k := ⟨_, rfl⟩
      rw [hkk] at hk ⊢
      clear hkk
      have HT := Lib.hid (tdiv6 hx1 hx2)
      go_wp2_with fail
      refine (around_any (x.tdiv 6) 63 wr (by omega) (by omega) HT.out).mono ?_
      rintro e w' ⟨rfl, rfl⟩
      have hm63 := aroundI_lt (x.tdiv 6) (n := 63) (by omega)
      obtain ⟨m, hmm⟩ : ∃ m, aroundI (x.tdiv 6) 63 = m := ⟨_, rfl⟩
      rw [hmm] at hm63 ⊢
      clear hmm
      have HO2 := Lib.hid (show j + 1 ≤ maxLen by unfold maxLen; omega)
      have HO3 := Lib.hid (show (j + 1) * 72 ≤ 140737488355328 by omega)
      have HO4 := Lib.hid (show w.heap.size ≤ wr.heap.size from hb.size)
      obtain rfl | rfl | rfl | rfl | rfl | rfl : k = 0 ∨ k = 1 ∨ k = 2 ∨ k = 3 ∨ k = 4 ∨ k = 5 := by omega
      · go_wp2_with (at_builtin; refine wpList_append_own_at _ rfl _ _ 25 rfl w.heap.size 28 i0 _ 5 72 Try.underlying25 hi0 hz0 hz1 hz2 rfl (by decide) _ _ _ rfl ((HOW.out.alloc _).alloc _) ⟨wr.heap.size + 1, 0, none⟩ 1 1 [_, _, _, _, _] rfl rfl (five_new2 _ _ _ _ _ _ _ _) (five_one rfl rfl rfl rfl rfl) HO2.out HO3.out (alloc_ge (alloc_ge HO4.out)) ?_; intro v' w1 hown' hgrow _ hat)
        have hbw := fun o p => ((Below.refl wr.heap.size wr).alloc (Nat.le_refl _) o).alloc (alloc_ge (Nat.le_refl _)) p
        obtain ⟨ys', hl', ho', hs', hb'⟩ := row_done (y := ⟨⟨0, (IntKind.u64.wrap x / 2 ^ m).toNat, 0, [], []⟩, .slice none 0 0, .slice none 0 0⟩) HYL.out (fun z hz => ⟨(HYS.out z hz).1, (HYS.out z hz).2.new (hbw _ _)⟩) ((HOW.out.alloc _).alloc _) hown' hgrow hat (hb.trans ((hbw _ _).mono hb.size)) (short_u (u64_shr x m)) ⟨by simp, by simp⟩ HYT.out ⟨In.nil, In.nil⟩ (by simp only [Y.cells]; rw [(u64_shr x m).1]; rfl)
        clear hown' hgrow hat hbw
        go_wp2
        go_roundw
        case rel => exact ⟨j + 1, ys', by omega, by omega, by go_num, hl', ho', hs', hb'⟩
        case measure => simp [intOf]; omega
      · go_wp2_with (at_builtin; refine wpList_append_own_at _ rfl _ _ 25 rfl w.heap.size 28 i0 _ 5 72 Try.underlying25 hi0 hz0 hz1 hz2 rfl (by decide) _ _ _ rfl ((HOW.out.alloc _).alloc _) ⟨wr.heap.size + 1, 0, none⟩ 1 1 [_, _, _, _, _] rfl rfl (five_new2 _ _ _ _ _ _ _ _) (five_one rfl rfl rfl rfl rfl) HO2.out HO3.out (alloc_ge (alloc_ge HO4.out)) ?_; intro v' w1 hown' hgrow _ hat)
        have hbw := fun o p => ((Below.refl wr.heap.size wr).alloc (Nat.le_refl _) o).alloc (alloc_ge (Nat.le_refl _)) p
        obtain ⟨ys', hl', ho', hs', hb'⟩ := row_done (y := ⟨⟨1, 0, x / 2 ^ m, [], []⟩, .slice none 0 0, .slice none 0 0⟩) HYL.out (fun z hz => ⟨(HYS.out z hz).1, (HYS.out z hz).2.new (hbw _ _)⟩) ((HOW.out.alloc _).alloc _) hown' hgrow hat (hb.trans ((hbw _ _).mono hb.size)) (short_i (i64_shr hx1 hx2 m)) ⟨by simp, by simp⟩ HYT.out ⟨In.nil, In.nil⟩ rfl
        clear hown' hgrow hat hbw
        go_wp2
        go_roundw
        case rel => exact ⟨j + 1, ys', by omega, by omega, by go_num, hl', ho', hs', hb'⟩
        case measure => simp [intOf]; omega
      · go_wp2_with (at_builtin; refine wpList_append_own_at _ rfl _ _ 25 rfl w.heap.size 28 i0 _ 5 72 Try.underlying25 hi0 hz0 hz1 hz2 rfl (by decide) _ _ _ rfl ((HOW.out.alloc _).alloc _) ⟨wr.heap.size + 1, 0, none⟩ 1 1 [_, _, _, _, _] rfl rfl (five_new2 _ _ _ _ _ _ _ _) (five_one rfl rfl rfl rfl rfl) HO2.out HO3.out (alloc_ge (alloc_ge HO4.out)) ?_; intro v' w1 hown' hgrow _ hat)
        have hbw := fun o p => ((Below.refl wr.heap.size wr).alloc (Nat.le_refl _) o).alloc (alloc_ge (Nat.le_refl _)) p
        obtain ⟨ys', hl', ho', hs', hb'⟩ := row_done (y := ⟨⟨2, 0, (m : Int) % 2, [], []⟩, .slice none 0 0, .slice none 0 0⟩) HYL.out (fun z hz => ⟨(HYS.out z hz).1, (HYS.out z hz).2.new (hbw _ _)⟩) ((HOW.out.alloc _).alloc _) hown' hgrow hat (hb.trans ((hbw _ _).mono hb.size)) (short_b (by omega)) ⟨by simp, by simp⟩ HYT.out ⟨In.nil, In.nil⟩ rfl
        clear hown' hgrow hat hbw
        go_wp2
        go_roundw
        case rel => exact ⟨j + 1, ys', by omega, by omega, by go_num, hl', ho', hs', hb'⟩
        case measure => simp [intOf]; omega
      · obtain ⟨wo, rfl⟩ : ∃ wo : World, wo = wr := ⟨_, rfl⟩
        have hbx := (Below.refl wo.heap.size wo).alloc (Nat.le_refl _) (.cells #[.int .i64 3, .int .u64 0, .int .i64 0, .slice none 0 0, .slice none 0 0] 28)
        have HBX := Lib.hid hbx
        have HV0 := Lib.hid (show B5 (wo.alloc (.cells #[.int .i64 3, .int .u64 0, .int .i64 0, .slice none 0 0, .slice none 0 0] 28)) wo.heap.size (.int .i64 3) (.int .u64 0) (.int .i64 0) (.slice none 0 0) (.slice none 0 0) from World.alloc_heap_new wo _)
        clear hbx
        go_wp2
        go_loopw [8] (fun i wq => ∃ (t : Nat) (l' : List UInt8) (sv : Value), (t : Int) ≤ (m : Int) % 10 ∧ i = .int .i64 t ∧ l'.length = t ∧ B5 wq wo.heap.size (.int .i64 3) (.int .u64 0) (.int .i64 0) sv (.slice none 0 0) ∧ wq.ownsRow wo.heap.size 5 1 sv t (vs .u8 (bI l')) ∧ Below wo.heap.size wo wq) (fun i _ => 10 - (intOf i).toNat)
        case atStart => exact ⟨0, [], .slice none 0 0, by omega, rfl, rfl, HV0.out, World.ownsRow_nil _ _ _ _, HBX.out⟩
        case round =>
          obtain ⟨t, l', sv, ht, rfl, hlt', hv5, hrow, hbq⟩ := hrel
          obtain ⟨q0, q1, q2, q3, q4⟩ := hv5.cells
          have f3 := hv5.frozen 3
          have hcell2 := (hbq.cell (p := ad.add j) hbs).trans hcell
          have hv5lt := hv5.lt
          obtain ⟨a1, c1, rfl⟩ := own_form hrow
          have HLT := Lib.hid hlt'
          have HV5 := Lib.hid hv5
          have HRW := Lib.hid hrow
          clear hlt' hv5 hrow
          have ht10 : t ≤ 9 := by omega
          have HP2 := Lib.hid (show t + 1 ≤ maxLen by unfold maxLen; omega)
          have HP3 := Lib.hid (show (t + 1) * 1 ≤ 140737488355328 by omega)
          have HP4 := Lib.hid (show wo.heap.size ≤ wr.heap.size from hbq.size)
          have HP5 := Lib.hid (show w.heap.size ≤ wr.heap.size from Nat.le_trans HO4.out hbq.size)
          by_cases htl : (t : Int) < (m : Int) % 10
          · have qa := fun o => (World.cell?_alloc_lt wr o ⟨wo.heap.size, 3, none⟩ hv5lt).trans q3
            go_wp2
            go_region_law (refine step_append_own rfl _ _ 24 rfl wo.heap.size 5 i5 (.int .u8 0) 1 1 Try.underlying24 hj0 hj1 hj2 hj3 rfl (by decide) _ _ _ rfl (World.ownsRow.alloc (w := World.drew wr) HRW.out _) _ 1 1 [_] rfl rfl (cell_one_new _ _ _) (one_cells _ _) HP2.out HP3.out (alloc_ge (w := World.drew wr) HP4.out) ?_; intro v' w1 hown' hgrow; obtain ⟨g', cap', rfl⟩ := ownsRow_succ hown'; obtain ⟨hv1, hr2, hb2⟩ := B5.appended (W := World.drew wr) (i := 3) HV5.out (by decide) HRW.out hown' hgrow; obtain ⟨p0, p1, p2, p3, p4⟩ := hv1.cells; have p5 := hv1.frozen 3)
            all_goals go_wp2
            all_goals
              go_roundw
              case rel => exact ⟨t + 1, l' ++ [_], .slice (some ⟨g', 0, none⟩) (t + 1) cap', by omega, by go_num, by rw [List.length_append, HLT.out]; rfl, hv1.set3 _, row_u8 HLT.out hr2, hbq.drew.trans hb2⟩
              case measure => simp [intOf]; omega
          · go_wp2_with (at_builtin; refine wpList_append_own_at _ rfl _ _ 25 rfl w.heap.size 28 i0 _ 5 72 Try.underlying25 hi0 hz0 hz1 hz2 rfl (by decide) _ _ _ rfl ((own_below HOW.out hbq).alloc _) ⟨wr.heap.size, 0, none⟩ 1 1 [_, _, _, _, _] rfl rfl (five_new _ _ _ _ _ _ _) (five_one rfl rfl rfl rfl rfl) HO2.out HO3.out (alloc_ge HP5.out) ?_; intro v' w1 hown' hgrow _ hat)
            have hbz := fun o => (Below.refl wr.heap.size wr).alloc (Nat.le_refl _) o
            obtain ⟨ys', hl', ho', hs', hb'⟩ := row_done (y := ⟨⟨3, 0, 0, l', []⟩, .slice a1 t c1, .slice none 0 0⟩) HYL.out (fun z hz => ⟨(HYS.out z hz).1, ((HYS.out z hz).2.new hbq).new (hbz _)⟩) ((own_below HOW.out hbq).alloc _) hown' hgrow hat ((hb.trans (hbq.mono HO4.out)).trans ((hbz _).mono HP5.out)) (short_t (by rw [HLT.out]; omega)) ⟨by show l'.length ≤ _; rw [HLT.out]; exact ht10, by simp⟩ HYT.out ⟨(off_own HRW.out HO4.out (fun z hz => (HOW.out.lt z hz).2)).new (hbz _), In.nil⟩ rfl
            clear hown' hgrow hat hbz
            go_wp2
            go_roundw
            case rel => exact ⟨j + 1, ys', by omega, by omega, by go_num, hl', ho', hs', hb'⟩
            case measure => simp [intOf]; omega
      · obtain ⟨wo, rfl⟩ : ∃ wo : World, wo = wr := ⟨_, rfl⟩
        have hbx := (Below.refl wo.heap.size wo).alloc (Nat.le_refl _) (.cells #[.int .i64 4, .int .u64 0, .int .i64 0, .slice none 0 0, .slice none 0 0] 28)
        have HBX := Lib.hid hbx
        have HV0 := Lib.hid (show B5 (wo.alloc (.cells #[.int .i64 4, .int .u64 0, .int .i64 0, .slice none 0 0, .slice none 0 0] 28)) wo.heap.size (.int .i64 4) (.int .u64 0) (.int .i64 0) (.slice none 0 0) (.slice none 0 0) from World.alloc_heap_new wo _)
        clear hbx
        go_wp2
        go_loopw [8] (fun i wq => ∃ (t : Nat) (l' : List UInt8) (sv : Value), (t : Int) ≤ (m : Int) % 10 ∧ i = .int .i64 t ∧ l'.length = t ∧ B5 wq wo.heap.size (.int .i64 4) (.int .u64 0) (.int .i64 0) sv (.slice none 0 0) ∧ wq.ownsRow wo.heap.size 5 1 sv t (vs .u8 (bI l')) ∧ Below wo.heap.size wo wq) (fun i _ => 10 - (intOf i).toNat)
        case atStart => exact ⟨0, [], .slice none 0 0, by omega, rfl, rfl, HV0.out, World.ownsRow_nil _ _ _ _, HBX.out⟩
        case round =>
          obtain ⟨t, l', sv, ht, rfl, hlt', hv5, hrow, hbq⟩ := hrel
          obtain ⟨q0, q1, q2, q3, q4⟩ := hv5.cells
          have f3 := hv5.frozen 3
          have hcell2 := (hbq.cell (p := ad.add j) hbs).trans hcell
          have hv5lt := hv5.lt
          obtain ⟨a1, c1, rfl⟩ := own_form hrow
          have HLT := Lib.hid hlt'
          have HV5 := Lib.hid hv5
          have HRW := Lib.hid hrow
          clear hlt' hv5 hrow
          have ht10 : t ≤ 9 := by omega
          have HP2 := Lib.hid (show t + 1 ≤ maxLen by unfold maxLen; omega)
          have HP3 := Lib.hid (show (t + 1) * 1 ≤ 140737488355328 by omega)
          have HP4 := Lib.hid (show wo.heap.size ≤ wr.heap.size from hbq.size)
          have HP5 := Lib.hid (show w.heap.size ≤ wr.heap.size from Nat.le_trans HO4.out hbq.size)
          by_cases htl : (t : Int) < (m : Int) % 10
          · have qa := fun o => (World.cell?_alloc_lt wr o ⟨wo.heap.size, 3, none⟩ hv5lt).trans q3
            go_wp2
            go_region_law (refine step_append_own rfl _ _ 24 rfl wo.heap.size 5 i5 (.int .u8 0) 1 1 Try.underlying24 hj0 hj1 hj2 hj3 rfl (by decide) _ _ _ rfl (World.ownsRow.alloc (w := World.drew wr) HRW.out _) _ 1 1 [_] rfl rfl (cell_one_new _ _ _) (one_cells _ _) HP2.out HP3.out (alloc_ge (w := World.drew wr) HP4.out) ?_; intro v' w1 hown' hgrow; obtain ⟨g', cap', rfl⟩ := ownsRow_succ hown'; obtain ⟨hv1, hr2, hb2⟩ := B5.appended (W := World.drew wr) (i := 3) HV5.out (by decide) HRW.out hown' hgrow; obtain ⟨p0, p1, p2, p3, p4⟩ := hv1.cells; have p5 := hv1.frozen 3)
            all_goals go_wp2
            all_goals
              go_roundw
              case rel => exact ⟨t + 1, l' ++ [_], .slice (some ⟨g', 0, none⟩) (t + 1) cap', by omega, by go_num, by rw [List.length_append, HLT.out]; rfl, hv1.set3 _, row_u8 HLT.out hr2, hbq.drew.trans hb2⟩
              case measure => simp [intOf]; omega
          · go_wp2_with (at_builtin; refine wpList_append_own_at _ rfl _ _ 25 rfl w.heap.size 28 i0 _ 5 72 Try.underlying25 hi0 hz0 hz1 hz2 rfl (by decide) _ _ _ rfl ((own_below HOW.out hbq).alloc _) ⟨wr.heap.size, 0, none⟩ 1 1 [_, _, _, _, _] rfl rfl (five_new _ _ _ _ _ _ _) (five_one rfl rfl rfl rfl rfl) HO2.out HO3.out (alloc_ge HP5.out) ?_; intro v' w1 hown' hgrow _ hat)
            have hbz := fun o => (Below.refl wr.heap.size wr).alloc (Nat.le_refl _) o
            obtain ⟨ys', hl', ho', hs', hb'⟩ := row_done (y := ⟨⟨4, 0, 0, l', []⟩, .slice a1 t c1, .slice none 0 0⟩) HYL.out (fun z hz => ⟨(HYS.out z hz).1, ((HYS.out z hz).2.new hbq).new (hbz _)⟩) ((own_below HOW.out hbq).alloc _) hown' hgrow hat ((hb.trans (hbq.mono HO4.out)).trans ((hbz _).mono HP5.out)) (short_r (by rw [HLT.out]; omega)) ⟨by show l'.length ≤ _; rw [HLT.out]; exact ht10, by simp⟩ HYT.out ⟨(off_own HRW.out HO4.out (fun z hz => (HOW.out.lt z hz).2)).new (hbz _), In.nil⟩ rfl
            clear hown' hgrow hat hbz
            go_wp2
            go_roundw
            case rel => exact ⟨j + 1, ys', by omega, by omega, by go_num, hl', ho', hs', hb'⟩
            case measure => simp [intOf]; omega
      · obtain ⟨wo, rfl⟩ : ∃ wo : World, wo = wr := ⟨_, rfl⟩
        have hbx := (Below.refl wo.heap.size wo).alloc (Nat.le_refl _) (.cells #[.int .i64 5, .int .u64 0, .int .i64 0, .slice none 0 0, .slice none 0 0] 28)
        have HBX := Lib.hid hbx
        have HV0 := Lib.hid (show B5 (wo.alloc (.cells #[.int .i64 5, .int .u64 0, .int .i64 0, .slice none 0 0, .slice none 0 0] 28)) wo.heap.size (.int .i64 5) (.int .u64 0) (.int .i64 0) (.slice none 0 0) (.slice none 0 0) from World.alloc_heap_new wo _)
        clear hbx
        go_wp2
        go_loopw [9] (fun i wq => ∃ (t : Nat) (l' : List Int) (sv : Value), (t : Int) ≤ (m : Int) % 5 ∧ i = .int .i64 t ∧ l'.length = t ∧ B5 wq wo.heap.size (.int .i64 5) (.int .u64 0) (.int .i64 0) (.slice none 0 0) sv ∧ wq.ownsRow wo.heap.size 3 1 sv t (vs .i64 l') ∧ Below wo.heap.size wo wq ∧ (∀ y ∈ l', ok64 y)) (fun i _ => 5 - (intOf i).toNat)
        case atStart => exact ⟨0, [], .slice none 0 0, by omega, rfl, rfl, HV0.out, World.ownsRow_nil _ _ _ _, HBX.out, (fun y hy => by cases hy)⟩
        case round =>
          obtain ⟨t, l', sv, ht, rfl, hlt', hv5, hrow, hbq, hokl⟩ := hrel
          obtain ⟨q0, q1, q2, q3, q4⟩ := hv5.cells
          have f3 := hv5.frozen 4
          have hcell2 := (hbq.cell (p := ad.add j) hbs).trans hcell
          have hv5lt := hv5.lt
          obtain ⟨a1, c1, rfl⟩ := own_form hrow
          have HLT := Lib.hid hlt'
          have HV5 := Lib.hid hv5
          have HRW := Lib.hid hrow
          have HOK := Lib.hid hokl
          clear hokl
          clear hlt' hv5 hrow
          have ht10 : t ≤ 4 := by omega
          have HP2 := Lib.hid (show t + 1 ≤ maxLen by unfold maxLen; omega)
          have HP3 := Lib.hid (show (t + 1) * 8 ≤ 140737488355328 by omega)
          have HP4 := Lib.hid (show wo.heap.size ≤ wr.heap.size from hbq.size)
          have HP5 := Lib.hid (show w.heap.size ≤ wr.heap.size from Nat.le_trans HO4.out hbq.size)
          by_cases htl : (t : Int) < (m : Int) % 5
          · have qa := fun o => (World.cell?_alloc_lt wr o ⟨wo.heap.size, 4, none⟩ hv5lt).trans q4
            go_wp2
            go_region_law (refine step_append_own rfl _ _ 22 rfl wo.heap.size 3 i3 (.int .i64 0) 1 8 Try.underlying22 hq0 hq1 hq2 hq3 rfl (by decide) _ _ _ rfl (World.ownsRow.alloc (w := World.drew wr) HRW.out _) _ 1 1 [_] rfl rfl (cell_one_new _ _ _) (one_cells _ _) HP2.out HP3.out (alloc_ge (w := World.drew wr) HP4.out) ?_; intro v' w1 hown' hgrow; obtain ⟨g', cap', rfl⟩ := ownsRow_succ hown'; obtain ⟨hv1, hr2, hb2⟩ := B5.appended (W := World.drew wr) (i := 4) HV5.out (by decide) HRW.out hown' hgrow; obtain ⟨p0, p1, p2, p3, p4⟩ := hv1.cells; have p5 := hv1.frozen 4)
            all_goals go_wp2
            all_goals
              go_roundw
              case rel => exact ⟨t + 1, l' ++ [_], .slice (some ⟨g', 0, none⟩) (t + 1) cap', by omega, by go_num, by rw [List.length_append, HLT.out]; rfl, hv1.set4 _, row_i64 hr2, hbq.drew.trans hb2, ok_snoc HOK.out (i64_shr hx1 hx2 _)⟩
              case measure => simp [intOf]; omega
          · go_wp2_with (at_builtin; refine wpList_append_own_at _ rfl _ _ 25 rfl w.heap.size 28 i0 _ 5 72 Try.underlying25 hi0 hz0 hz1 hz2 rfl (by decide) _ _ _ rfl ((own_below HOW.out hbq).alloc _) ⟨wr.heap.size, 0, none⟩ 1 1 [_, _, _, _, _] rfl rfl (five_new _ _ _ _ _ _ _) (five_one rfl rfl rfl rfl rfl) HO2.out HO3.out (alloc_ge HP5.out) ?_; intro v' w1 hown' hgrow _ hat)
            have hbz := fun o => (Below.refl wr.heap.size wr).alloc (Nat.le_refl _) o
            obtain ⟨ys', hl', ho', hs', hb'⟩ := row_done (y := ⟨⟨5, 0, 0, [], l'⟩, .slice none 0 0, .slice a1 t c1⟩) HYL.out (fun z hz => ⟨(HYS.out z hz).1, ((HYS.out z hz).2.new hbq).new (hbz _)⟩) ((own_below HOW.out hbq).alloc _) hown' hgrow hat ((hb.trans (hbq.mono HO4.out)).trans ((hbz _).mono HP5.out)) (short_l (by rw [HLT.out]; omega) HOK.out) ⟨by simp, by show l'.length ≤ _; rw [HLT.out]; exact ht10⟩ HYT.out ⟨In.nil, (off_own HRW.out HO4.out (fun z hz => (HOW.out.lt z hz).2)).new (hbz _)⟩ rfl
            clear hown' hgrow hat hbz
            go_wp2
            go_roundw
            case rel => exact ⟨j + 1, ys', by omega, by omega, by go_num, hl', ho', hs', hb'⟩
            case measure => simp [intOf]; omega
    · have HD1 := Lib.hid hlt
      obtain ⟨a1, c1, rfl⟩ := own_form HOW.out
      have hfin : ValsOut 8 w (.returned (.slice a1 j c1)) wr := ⟨a1, c1, ys, by rw [HYL.out], by rw [HYL.out]; exact hj8, by rw [HYL.out]; exact HOW.out, by rw [HYL.out]; exact HYS.out, hb, HYT.out⟩
      have HFIN := Lib.hid hfin
      clear hfin
      by_cases h1 : j < n
      · have hd1 : decide ((j : Int) < (n : Int)) = true := by simp; omega
        have hd2 : decide ((j : Int) < 8) = false := by
          have : ¬ j < 8 := fun h => hlt ⟨h1, h⟩
          simp; omega
        clear hlt
        go_wp2
        go_ret
        exact HFIN.out
      · have hd1 : decide ((j : Int) < (n : Int)) = false := by simp; omega
        clear hlt
        go_wp2
        go_ret
        exact HFIN.out
end Go.Proofs.Ytgcgifjfgmhhmaa
