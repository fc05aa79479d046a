/- The walk of PointScaled: the law returns true for every input. -/
import Derived.Test.YtfmccalkfagafaaQB
import Derived.Test.YtfmccalkfagafaaPQ
import Derived.Test.YtfmccalkfagafaaQM
namespace Go.Proofs.Ytfmccalkfagafaa
open Go.RowKit
attribute [local go_sem ↓] Go.wp_at_zero Go.wp_at_succ
theorem pt_info : (Try.prog.info? 44).map (fun i => (i.zero, i.size, i.bytes)) = some (some (.agg #[.int .i64 0, .int .i64 0]), 2, 16) := by kernel_rfl
/-- append onto a row of the call's own, as one step of a region that draws. -/
theorem step_append_own {P : Program} {ops : Array Oper} {o : Oper} {a : Act} {w : World} {K : Act → World → Prop} {Q : Exit → Act → World → Prop} {E : Prop} (hg : o.guard = none) (s x : Operand) (t : TypeId)
    (ho : o.op = .call { callee := .builtin .append, args := #[s, x], argTypes := #[t, t] })
    (base : Nat) (e : TypeId) (i : TypeInfo) (z : Value) (size bytes : Nat) (ht : P.underlying t = some (.slice e)) (hi : P.info? e = some i) (hz : i.zero = some z)
    (hsize : i.size = size) (hby : i.bytes = bytes) (hzs : z.cells.size = size) (hsz : 0 < size)
    (v : Value) (n : Nat) (xs : List Value) (hs : a.eval s = v) (hown : w.ownsRow base e size v n xs)
    (ad : Addr) (m c : Nat) (news : List Value) (hx : a.eval x = .slice (some ad) m c) (hl : news.length = m * size) (hnews : ∀ j u, news[j]? = some u → w.cell? (ad.add j) = some u) (h1 : ∀ u ∈ news, u.oneCell' = true)
    (h63 : n + m ≤ maxLen) (hbytes : (n + m) * bytes ≤ 140737488355328) (hbase : base ≤ w.heap.size)
    (h : ∀ v' w', w'.ownsRow base e size v' (n + m) (xs ++ news) → w.grownBy w' v.ownBlock → K (a.put o.dst v') w') :
    if Region.wanted o (yielded ops a.tmps) = true then Oper.wp P o a w K Q else E := by
  have hw : Region.wanted o (yielded ops a.tmps) = true := by simp [Region.wanted, hg]
  rw [if_pos hw]
  exact wp_append_own w s x t ho base e i z size bytes ht hi hz hsize hby hzs hsz v n xs hs hown ad m c news hx hl hnews h1 h63 hbytes hbase (fun v' w' g1 g2 _ => h v' w' g1 g2)
theorem p2_news {t : TypeId} {w : World} {g : Nat} {u0 u1 : Value} (h : P2 t w g u0 u1) : ∀ j u, [u0, u1][j]? = some u → w.cell? ((⟨g, 0, none⟩ : Addr).add j) = some u := by
  intro j u hj
  match j with
  | 0 => simp at hj; subst hj; exact h.cells.1
  | 1 => simp at hj; subst hj; exact h.cells.2
  | j + 2 => simp at hj
/-- Points as values, one behind the other. -/
def vp : List (Int × Int) → List Value
  | [] => []
  | p :: l => .int .i64 p.1 :: .int .i64 p.2 :: vp l
theorem vp_snoc (l : List (Int × Int)) (p : Int × Int) : vp l ++ [.int .i64 p.1, .int .i64 p.2] = vp (l ++ [p]) := by
  induction l with
  | nil => rfl
  | cons q l ih => rw [vp, List.cons_append, List.cons_append, ih]; rfl
theorem vp_get {l : List (Int × Int)} {i : Nat} {p : Int × Int} (h : l[i]? = some p) : (vp l)[i * 2]? = some (.int .i64 p.1) ∧ (vp l)[i * 2 + 1]? = some (.int .i64 p.2) := by
  induction l generalizing i with
  | nil => simp at h
  | cons q l ih =>
    match i with
    | 0 => simp at h; subst h; exact ⟨rfl, rfl⟩
    | i + 1 =>
      have := ih (i := i) (by simpa using h)
      rw [show (i + 1) * 2 = i * 2 + 1 + 1 by omega]
      exact this
/-- Block g holds these points. -/
def C2 (w : World) (g : Nat) (l : List (Int × Int)) : Prop := ∀ i p, l[i]? = some p → w.cell? ⟨g, i * 2, none⟩ = some (.int .i64 p.1) ∧ w.cell? ⟨g, i * 2 + 1, none⟩ = some (.int .i64 p.2)
theorem C2.new {w w' : World} {g B : Nat} {l : List (Int × Int)} (h : C2 w g l) (hb : Below B w w') (hg : g < B) : C2 w' g l := by
  intro i p hp
  obtain ⟨h1, h2⟩ := h i p hp
  exact ⟨(hb.cell (p := ⟨g, i * 2, none⟩) hg).trans h1, (hb.cell (p := ⟨g, i * 2 + 1, none⟩) hg).trans h2⟩
theorem C2.lit (w : World) (t : TypeId) (x0 y0 x1 y1 x2 y2 x3 y3 : Int) : C2 (w.alloc (.cells #[.int .i64 x0, .int .i64 y0, .int .i64 x1, .int .i64 y1, .int .i64 x2, .int .i64 y2, .int .i64 x3, .int .i64 y3] t)) w.heap.size [(x0, y0), (x1, y1), (x2, y2), (x3, y3)] := by
  have hh := heap_alloc_new w (.cells #[.int .i64 x0, .int .i64 y0, .int .i64 x1, .int .i64 y1, .int .i64 x2, .int .i64 y2, .int .i64 x3, .int .i64 y3] t)
  intro i p hp
  match i with
  | 0 => simp at hp; subst hp; exact ⟨(cell_of_row _ _ _ _ t (0, 0) hh).trans rfl, (cell_of_row _ _ _ _ t (0, 0) hh).trans rfl⟩
  | 1 => simp at hp; subst hp; exact ⟨(cell_of_row _ _ _ _ t (0, 0) hh).trans rfl, (cell_of_row _ _ _ _ t (0, 0) hh).trans rfl⟩
  | 2 => simp at hp; subst hp; exact ⟨(cell_of_row _ _ _ _ t (0, 0) hh).trans rfl, (cell_of_row _ _ _ _ t (0, 0) hh).trans rfl⟩
  | 3 => simp at hp; subst hp; exact ⟨(cell_of_row _ _ _ _ t (0, 0) hh).trans rfl, (cell_of_row _ _ _ _ t (0, 0) hh).trans rfl⟩
  | i + 4 => simp at hp
theorem own_c2 {w : World} {base n : Nat} {t : TypeId} {v : Value} {l : List (Int × Int)} (h : w.ownsRow base t 2 v n (vp l)) (hn : 0 < n) : ∃ g cap, v = .slice (some ⟨g, 0, none⟩) n cap ∧ base ≤ g ∧ g < w.heap.size ∧ n ≤ cap ∧ C2 w g l := by
  rcases h.2 with ⟨_, h0⟩ | ⟨g, cap, cur, rfl, h2, h3, h4, _⟩
  · omega
  · refine ⟨g, cap, rfl, h2, (Array.getElem?_eq_some_iff.1 h3).1, h4, fun i p hp => ?_⟩
    obtain ⟨e1, e2⟩ := vp_get hp
    have a1 := h.cells (g := g) rfl _ _ e1
    have a2 := h.cells (g := g) rfl _ _ e2
    rw [Go.WideShapes.add_plain, Nat.zero_add] at a1 a2
    exact ⟨a1, a2⟩
/-- Moved and made greater. -/
def mv (n a b : Int) (p : Int × Int) : Int × Int := (n * p.1 + a, n * p.2 + b)
theorem take_snoc {l : List (Int × Int)} {i : Nat} {p : Int × Int} (h : l[i]? = some p) (f : Int × Int → Int × Int) : (l.take i).map f ++ [f p] = (l.take (i + 1)).map f := by
  rw [List.take_add_one, h, List.map_append]
  rfl
theorem get_all {l : List (Int × Int)} {i : Nat} (h : l.length = 4) (hi : i < 4) (hc : ∀ p ∈ l, Co p.1 ∧ Co p.2) : ∃ x y, l[i]? = some (x, y) ∧ Co x ∧ Co y := by
  have hs : l[i]? = some l[i] := List.getElem?_eq_getElem (by omega)
  exact ⟨_, _, hs, hc _ (List.getElem_mem _)⟩
theorem mv_get {l : List (Int × Int)} {i : Nat} {x y n a b : Int} (h : l[i]? = some (x, y)) : (l.map (mv n a b))[i]? = some (n * x + a, n * y + b) := by
  rw [List.getElem?_map, h]; rfl
theorem co_wf {x : Int} (h : Co x) : (Lit.int .i64 x).wf = true := WalkArith.wf_i64 (by have := h.1; have := h.2; omega)
/-- n, a and b as the law makes them. -/
def Nab (n a b : Int) : Prop := (1 ≤ n ∧ n ≤ 16777216) ∧ (-268435456 ≤ a ∧ a < 268435456) ∧ (-268435456 ≤ b ∧ b < 268435456)
theorem mv_in {n x a : Int} (hn : 1 ≤ n ∧ n ≤ 16777216) (hx : Co x) (ha : -268435456 ≤ a ∧ a < 268435456) : -268435456 ≤ n * x + a ∧ n * x + a ≤ 805306368 := by
  have m1 : 0 ≤ n * x ∧ n * x ≤ 536870912 := ⟨Int.mul_nonneg (by omega) hx.1, by have := Int.mul_le_mul hn.2 hx.2 hx.1 (by decide); omega⟩
  omega
theorem mv_wf {n x a : Int} (hn : 1 ≤ n ∧ n ≤ 16777216) (hx : Co x) (ha : -268435456 ≤ a ∧ a < 268435456) : (Lit.int .i64 (n * x + a)).wf = true := WalkArith.wf_i64 (by have := mv_in hn hx ha; omega)
theorem mv_vd {n a b x y : Int} (h : Nab n a b) (hx : Co x) (hy : Co y) : vdC (n * x + a) (n * y + b) = 0 := by
  have h1 := mv_in h.1 hx h.2.1
  have h2 := mv_in h.1 hy h.2.2
  exact if_pos ⟨by omega, by omega⟩
theorem mv_pc {n a b x y z t : Int} (h : 1 ≤ n) : pcV (n * x + a) 1 (n * y + b) 1 (n * z + a) 1 (n * t + b) 1 = pcV x 1 y 1 z 1 t 1 := by
  unfold pcV
  simp only [Int.mul_one]
  rw [cmpI_lin (by omega), cmpI_lin (by omega)]
theorem mv_ng {n a b x y z t : Int} (h : 1 ≤ n) : ngV (n * x + a) 1 (n * y + b) 1 (n * z + a) 1 (n * t + b) 1 = ngV x 1 y 1 z 1 t 1 := by
  unfold ngV
  simp only [Int.mul_one]
  exact decide_eq_decide.2 (by rw [le_lin (by omega), le_lin (by omega)])
theorem mv_inV {n a b x y z t p u : Int} (h : 1 ≤ n) : inV (n * x + a) (n * y + b) (n * z + a) (n * t + b) (n * p + a) 1 (n * u + b) 1 = inV x y z t p 1 u 1 := by
  unfold inV
  rw [mv_ng h, mv_ng h]
theorem mv_mt {n a b x y z t x' y' z' t' : Int} (h : 1 ≤ n) : mtV (n * x + a) (n * y + b) (n * z + a) (n * t + b) (n * x' + a) (n * y' + b) (n * z' + a) (n * t' + b) = mtV x y z t x' y' z' t' := by
  have hl : ∀ p q c : Int, (n * p + c ≤ n * q + c) ↔ p ≤ q := fun p q c => le_lin (by omega)
  unfold mtV
  have e : ∀ p q r s : Int, (max p q ≤ min r s) ↔ (p ≤ r ∧ p ≤ s ∧ q ≤ r ∧ q ≤ s) := by intro p q r s; omega
  simp only [e, hl]
theorem keep4 {a b : World} {p : Addr} {v : Value} (h1 : Below a.heap.size a b) (h : a.cell? p = some v) : b.cell? p = some v := (h1.cell (World.block_lt_of_cell? a _ h)).trans h
set_option maxRecDepth 100000 in
set_option maxHeartbeats 6400000 in
theorem pointScaled_walk (a b c d k x y : Int) (w : World) (ha : (Lit.int .i64 a).wf = true) (hb : (Lit.int .i64 b).wf = true) (hc : (Lit.int .i64 c).wf = true) (hd : (Lit.int .i64 d).wf = true) (hk : (Lit.int .i64 k).wf = true) (hx : (Lit.int .i64 x).wf = true) (hy : (Lit.int .i64 y).wf = true) :
    Calls Try.prog 7 #[.int .i64 a, .int .i64 b, .int .i64 c, .int .i64 d, .int .i64 k, .int .i64 x, .int .i64 y] w fun e w' => e = .returned (.bool true) ∧ Below w.heap.size w w' := by
  obtain ⟨i0, hi0, hz0, hz1, hz2⟩ := info_parts pt_info
  have HT := Lib.hid (And.intro hi0 (And.intro hz0 (And.intro hz1 hz2)))
  clear hi0 hz0 hz1 hz2
  have HA := Lib.hid (And.intro ha (And.intro hb (And.intro hc hd)))
  clear ha hb hc hd
  obtain ⟨n0, hn0⟩ : ∃ z, aroundZ k 16777216 = z := ⟨_, rfl⟩
  obtain ⟨x0, hx0⟩ : ∃ z, aroundZ x 536870912 = z := ⟨_, rfl⟩
  obtain ⟨y0, hy0⟩ : ∃ z, aroundZ y 536870912 = z := ⟨_, rfl⟩
  have n1 := aroundZ_in k (n := 16777216) (by decide)
  have x1 := aroundZ_in x (n := 536870912) (by decide)
  have y1 := aroundZ_in y (n := 536870912) (by decide)
  rw [hn0] at n1
  rw [hx0] at x1
  rw [hy0] at y1
  obtain ⟨n, hn⟩ : ∃ z, 1 + n0 = z := ⟨_, rfl⟩
  obtain ⟨a', ha'⟩ : ∃ z, x0 - 268435456 = z := ⟨_, rfl⟩
  obtain ⟨b', hb'⟩ : ∃ z, y0 - 268435456 = z := ⟨_, rfl⟩
  have HN := Lib.hid (show Nab n a' b' from ⟨⟨by omega, by omega⟩, ⟨by omega, by omega⟩, by omega, by omega⟩)
  have en : IntKind.i64.wrap (1 + n0) = n := by rw [hn]; exact IntWalk.i64_in _ (by omega)
  have ea : IntKind.i64.wrap (x0 - 268435456) = a' := by rw [ha']; exact IntWalk.i64_in _ (by omega)
  have eb : IntKind.i64.wrap (y0 - 268435456) = b' := by rw [hb']; exact IntWalk.i64_in _ (by omega)
  have HE := Lib.hid (And.intro en (And.intro ea eb))
  have HZ := Lib.hid (And.intro hn0 (And.intro hx0 hy0))
  clear n1 x1 y1 hn ha' hb' hn0 hx0 hy0 en ea eb
  obtain ⟨W, hW⟩ : ∃ W, w.alloc (.cells #[.int .i64 a', .int .i64 b'] 44) = W := ⟨_, rfl⟩
  have HK := Lib.hid (show Below w.heap.size w W by rw [← hW]; exact (Below.refl _ w).alloc (Nat.le_refl _) _)
  have HP := Lib.hid (show P2 44 W w.heap.size (.int .i64 a') (.int .i64 b') by rw [← hW]; exact P2.lit _ _ _ _)
  obtain ⟨H, hH⟩ : ∃ g, w.heap.size = g := ⟨_, rfl⟩
  rw [hH] at HP
  go_enter Try.func7, Try.ntmps7
  go_wp2_with fail
  refine (aroundz_any k 16777216 w (by decide) (by decide) hk).mono ?_
  rw [HZ.out.1]
  rintro e w1 ⟨rfl, rfl⟩
  have en := HE.out.1
  go_wp2_with fail
  refine (aroundz_any x 536870912 w (by decide) (by decide) hx).mono ?_
  rw [HZ.out.2.1]
  rintro e w1 ⟨rfl, rfl⟩
  have ea := HE.out.2.1
  go_wp2_with fail
  refine (aroundz_any y 536870912 w (by decide) (by decide) hy).mono ?_
  rw [HZ.out.2.2]
  rintro e w1 ⟨rfl, rfl⟩
  have eb := HE.out.2.2
  clear hk hx hy
  go_wp2_with fail
  clear hW hH en ea eb
  refine (grid_any a W HA.out.1).mono ?_
  rintro e w1 ⟨x0, y0, rfl, cx0, cy0, hb0⟩
  have HC0 := Lib.hid (And.intro cx0 cy0)
  have HBQ0 := Lib.hid hb0
  have HB0 := Lib.hid (bt HK.out hb0)
  clear cx0 cy0 hb0
  go_wp2_with fail
  refine (grid_any b w1 HA.out.2.1).mono ?_
  rintro e w2 ⟨x1, y1, rfl, cx1, cy1, hb1⟩
  have HC1 := Lib.hid (And.intro cx1 cy1)
  have HBQ1 := Lib.hid (bt HBQ0.out hb1)
  have HB1 := Lib.hid (bt HB0.out hb1)
  clear cx1 cy1 hb1
  go_wp2_with fail
  refine (grid_any c w2 HA.out.2.2.1).mono ?_
  rintro e w3 ⟨x2, y2, rfl, cx2, cy2, hb2⟩
  have HC2 := Lib.hid (And.intro cx2 cy2)
  have HBQ2 := Lib.hid (bt HBQ1.out hb2)
  have HB2 := Lib.hid (bt HB1.out hb2)
  clear cx2 cy2 hb2
  go_wp2_with fail
  refine (grid_any d w3 HA.out.2.2.2).mono ?_
  rintro e w4 ⟨x3, y3, rfl, cx3, cy3, hb3⟩
  have HC3 := Lib.hid (And.intro cx3 cy3)
  have HBQ3 := Lib.hid (bt HBQ2.out hb3)
  have HB3 := Lib.hid (bt HB2.out hb3)
  clear cx3 cy3 hb3
  obtain ⟨WL, hL⟩ : ∃ z, w4.alloc (.cells #[.int .i64 x0, .int .i64 y0, .int .i64 x1, .int .i64 y1, .int .i64 x2, .int .i64 y2, .int .i64 x3, .int .i64 y3] 44) = z := ⟨_, rfl⟩
  have HKL := Lib.hid (show Below w4.heap.size w4 WL by rw [← hL]; exact (Below.refl _ _).alloc (Nat.le_refl _) _)
  obtain ⟨G, hG⟩ : ∃ g, w4.heap.size = g := ⟨_, rfl⟩
  obtain ⟨L, hl⟩ : ∃ l, [(x0, y0), (x1, y1), (x2, y2), (x3, y3)] = l := ⟨_, rfl⟩
  have HL := Lib.hid (show C2 WL G L ∧ G < WL.heap.size by rw [← hL, ← hG, ← hl]; exact ⟨C2.lit _ _ _ _ _ _ _ _ _ _, by simp⟩)
  have HLc := Lib.hid (show L.length = 4 ∧ ∀ p ∈ L, Co p.1 ∧ Co p.2 by
    rw [← hl]
    refine ⟨rfl, fun p hp => ?_⟩
    simp only [List.mem_cons, List.not_mem_nil, or_false] at hp
    rcases hp with rfl | rfl | rfl | rfl
    · exact HC0.out
    · exact HC1.out
    · exact HC2.out
    · exact HC3.out)
  have HPL := Lib.hid (show P2 44 WL H (.int .i64 a') (.int .i64 b') from HP.out.new (bt HBQ3.out HKL.out))
  have HBL := Lib.hid (bt HB3.out HKL.out)
  go_wp2_with fail
  clear hL hG hl HP HB0 HB1 HB2 HB3 HKL HK HC0 HC1 HC2 HC3 HZ HE HBQ0 HBQ1 HBQ2 HBQ3
  go_loopw [18, 19] (fun tm tv wr => ∃ i : Nat, i ≤ 4 ∧ tv = .int .i64 (i : Int) ∧ wr.ownsRow WL.heap.size 44 2 tm i (vp ((L.take i).map (mv n a' b'))) ∧ Below WL.heap.size WL wr) (fun _ tv _ => 4 - (intOf tv).toNat)
  case atStart => exact ⟨0, by omega, rfl, World.ownsRow_nil _ _ _ _, Below.refl _ _⟩
  case round =>
    obtain ⟨i, hi, rfl, hrow, hbel⟩ := hrel
    have HM := Lib.hid hrow
    have HB := Lib.hid hbel
    obtain ⟨am, cm, rfl⟩ := own_form hrow
    clear hrow hbel
    by_cases hlt : i < 4
    · obtain ⟨px, py, hp, cx, cy⟩ := get_all HLc.out.1 hlt HLc.out.2
      have HPX := Lib.hid (And.intro hp (And.intro cx cy))
      clear hp cx cy
      have h0i : (0 : Int) ≤ (i : Int) := by omega
      have hi4 : (i : Int) < 4 := by omega
      have HS : Hid (∀ w', Below WL.heap.size WL w' → (fun w' : World => w'.cell? ⟨G, i * 2, none⟩ = some (.int .i64 px) ∧ w'.cell? ⟨G, i * 2 + 1, none⟩ = some (.int .i64 py) ∧ w'.cell? ⟨H, 0, none⟩ = some (.int .i64 a') ∧ w'.cell? ⟨H, 1, none⟩ = some (.int .i64 b') ∧ Below WL.heap.size WL w') w') := Lib.hid (fun w' hb => ⟨(HL.out.1.new hb HL.out.2 i _ HPX.out.1).1, (HL.out.1.new hb HL.out.2 i _ HPX.out.1).2, (HPL.out.new hb).cells.1, (HPL.out.new hb).cells.2, hb⟩)
      go_wp2_with fail
      obtain ⟨v0, hv0⟩ : ∃ z, World.drew wr = z := ⟨_, rfl⟩
      have HD0 := Lib.hid (show Below wr.heap.size wr v0 by rw [← hv0]; exact (Below.refl _ _).drew)
      have HX_0 := Lib.hid (bt HB.out HD0.out)
      have M_0 := Lib.hid (own_below (HM.out) HD0.out)
      refine wp_region_held_drew (S := (fun w' : World => w'.cell? ⟨G, i * 2, none⟩ = some (.int .i64 px) ∧ w'.cell? ⟨G, i * 2 + 1, none⟩ = some (.int .i64 py) ∧ w'.cell? ⟨H, 0, none⟩ = some (.int .i64 a') ∧ w'.cell? ⟨H, 1, none⟩ = some (.int .i64 b') ∧ Below WL.heap.size WL w')) (by kernel_rfl) ?_ (fun hHeld => ?_)
      · rw [hv0]
        exact HS.out _ HX_0.out
      rw [hv0] at hHeld ⊢
      clear hv0 HD0
      refine wpAnyH_take (i := 0) (v := ?_) rfl (by kernel_rfl) (by kernel_rfl) (by kernel_rfl) (fun _ _ _ h => h) (Or.inl ⟨by kernel_rfl, ?_⟩) (by assumption) ?_
      rotate_left
      · intro w hSw
        (try dsimp only at hSw)
        go_simp
        all_goals (with_reducible rfl)
      try simp only [Act.put, List.getElem_toArray, List.getElem_cons_zero, List.setIfInBounds_toArray, List.set_cons_zero, List.set_cons_succ]
      refine wpAnyH_take (i := 1) (v := ?_) rfl (by kernel_rfl) (by kernel_rfl) (by kernel_rfl) (fun _ _ _ h => h) (Or.inl ⟨by kernel_rfl, ?_⟩) (by assumption) ?_
      rotate_left
      · intro w hSw
        (try dsimp only at hSw)
        go_simp
        all_goals (with_reducible rfl)
      try simp only [Act.put, List.getElem_toArray, List.getElem_cons_zero, List.getElem_cons_succ, List.setIfInBounds_toArray, List.set_cons_zero, List.set_cons_succ]
      refine wpAnyH_take (i := 2) (v := ?_) rfl (by kernel_rfl) (by kernel_rfl) (by kernel_rfl) (fun _ _ _ h => h) (Or.inl ⟨by kernel_rfl, ?_⟩) (by assumption) ?_
      rotate_left
      · intro w hSw
        (try dsimp only at hSw)
        go_simp
        all_goals (with_reducible rfl)
      try simp only [Act.put, List.getElem_toArray, List.getElem_cons_zero, List.getElem_cons_succ, List.setIfInBounds_toArray, List.set_cons_zero, List.set_cons_succ]
      refine wpAnyH_take (i := 3) (v := ?_) rfl (by kernel_rfl) (by kernel_rfl) (by kernel_rfl) (fun _ _ _ h => h) (Or.inl ⟨by kernel_rfl, ?_⟩) (by assumption) ?_
      rotate_left
      · intro w hSw
        (try dsimp only at hSw)
        go_simp
        all_goals (with_reducible rfl)
      try simp only [Act.put, List.getElem_toArray, List.getElem_cons_zero, List.getElem_cons_succ, List.setIfInBounds_toArray, List.set_cons_zero, List.set_cons_succ]
      refine wpAnyH_take (i := 4) (v := ?_) rfl (by kernel_rfl) (by kernel_rfl) (by kernel_rfl) (fun _ _ _ h => h) (Or.inl ⟨by kernel_rfl, ?_⟩) (by assumption) ?_
      rotate_left
      · intro w hSw
        (try dsimp only at hSw)
        go_simp
        all_goals (with_reducible rfl)
      try simp only [Act.put, List.getElem_toArray, List.getElem_cons_zero, List.getElem_cons_succ, List.setIfInBounds_toArray, List.set_cons_zero, List.set_cons_succ]
      refine wpAnyH_take (i := 5) (v := ?_) rfl (by kernel_rfl) (by kernel_rfl) (by kernel_rfl) (fun _ _ _ h => h) (Or.inl ⟨by kernel_rfl, ?_⟩) (by assumption) ?_
      rotate_left
      · intro w hSw
        (try dsimp only at hSw)
        go_simp
        all_goals (with_reducible rfl)
      try simp only [Act.put, List.getElem_toArray, List.getElem_cons_zero, List.getElem_cons_succ, List.setIfInBounds_toArray, List.set_cons_zero, List.set_cons_succ]
      refine wpAnyH_take (i := 6) (v := ?_) rfl (by kernel_rfl) (by kernel_rfl) (by kernel_rfl) (fun _ _ _ h => h) (Or.inl ⟨by kernel_rfl, ?_⟩) (by assumption) ?_
      rotate_left
      · intro w hSw
        (try dsimp only at hSw)
        go_simp
        all_goals (with_reducible rfl)
      try simp only [Act.put, List.getElem_toArray, List.getElem_cons_zero, List.getElem_cons_succ, List.setIfInBounds_toArray, List.set_cons_zero, List.set_cons_succ]
      refine wpAnyH_ready (rs := [7]) (by kernel_rfl) (by simp) ?_
      refine AllReadyH.cons rfl (fun K hK => ?_) AllReadyH.nil
      go_simp
      go_at_call 35
      refine (scaled_any px py n a' b' v0 HPX.out.2.1 HPX.out.2.2 HN.out.1 HN.out.2.1 HN.out.2.2).mono ?_
      rintro e v1 ⟨rfl, hk⟩
      have HB_1 := Lib.hid hk
      go_wp2_with fail
      have HX_1 := Lib.hid (bt HX_0.out HB_1.out)
      have M_1 := Lib.hid (own_below (M_0.out) HB_1.out)
      refine hK.out _ _ (HS.out _ HX_1.out) (fun hHeld2 => ?_)
      clear hHeld
      have hHeld := hHeld2
      clear hHeld2 hK K hk HB_1 HX_0 M_0
      try simp only [Act.put, List.getElem_toArray, List.getElem_cons_zero, List.getElem_cons_succ, List.setIfInBounds_toArray, List.set_cons_zero, List.set_cons_succ]
      refine wpAnyH_ready (rs := [8]) (by kernel_rfl) (by simp) ?_
      refine AllReadyH.cons rfl (fun K hK => ?_) AllReadyH.nil
      go_simp
      have HB_2 := Lib.hid ((Below.refl v1.heap.size v1).alloc (Nat.le_refl _) (.cells #[.int .i64 (n * px + a'), .int .i64 (n * py + b')] 44))
      have HP_q_2 := Lib.hid (P2.lit v1 44 (.int .i64 (n * px + a')) (.int .i64 (n * py + b')))
      obtain ⟨v2, hV⟩ : ∃ z, World.alloc v1 (.cells #[.int .i64 (n * px + a'), .int .i64 (n * py + b')] 44) = z := ⟨_, rfl⟩
      obtain ⟨gq, hg⟩ : ∃ z, v1.heap.size = z := ⟨_, rfl⟩
      rw [hV] at HB_2 HP_q_2  ⊢
      rw [hg] at HP_q_2  ⊢
      have HG_q := Lib.hid (show WL.heap.size ≤ gq by rw [← hg]; exact HX_1.out.size)
      have HX_2 := Lib.hid (bt HX_1.out HB_2.out)
      have M_2 := Lib.hid (own_below (M_1.out) HB_2.out)
      refine hK.out _ _ (HS.out _ HX_2.out) (fun hHeld2 => ?_)
      clear hHeld
      have hHeld := hHeld2
      clear hHeld2 hK K hV hg HB_2 HX_1 M_1
      try simp only [Act.put, List.getElem_toArray, List.getElem_cons_zero, List.getElem_cons_succ, List.setIfInBounds_toArray, List.set_cons_zero, List.set_cons_succ]
      refine wpAnyH_ready (rs := [9]) (by kernel_rfl) (by simp) ?_
      refine AllReadyH.cons rfl (fun K hK => ?_) AllReadyH.nil
      refine step_append_own rfl _ _ 72 rfl WL.heap.size 44 i0 _ 2 16 Try.underlying72 HT.out.1 HT.out.2.1 HT.out.2.2.1 HT.out.2.2.2 rfl (by decide) _ _ _ rfl M_2.out ⟨gq, 0, none⟩ 1 1 [.int .i64 (n * px + a'), .int .i64 (n * py + b')] rfl rfl (p2_news HP_q_2.out) (by intro u hu; simp only [List.mem_cons, List.not_mem_nil, or_false] at hu; rcases hu with rfl | rfl <;> rfl) (by unfold maxLen; omega) (by omega) HX_2.out.size ?_
      intro vm v3 hown hgrow
      have HX_3 := Lib.hid (HX_2.out.grown hgrow HX_2.out.size (own_block_ge M_2.out))
      have hrow : World.ownsRow v3 WL.heap.size 44 2 vm (i + 1) (vp ((L.take (i + 1)).map (mv n a' b'))) := by
        rw [← take_snoc HPX.out.1, ← vp_snoc]
        exact hown
      clear hown hgrow
      have M_3 := Lib.hid (hrow)
      refine hK.out _ _ (HS.out _ HX_3.out) (fun hHeld2 => ?_)
      clear hHeld
      have hHeld := hHeld2
      clear hHeld2 hK K 
      try simp only [Act.put, List.getElem_toArray, List.getElem_cons_zero, List.getElem_cons_succ, List.setIfInBounds_toArray, List.set_cons_zero, List.set_cons_succ]
      refine wpAnyH_take (i := 10) (v := ?_) rfl (by kernel_rfl) (by kernel_rfl) (by kernel_rfl) (fun _ _ _ h => h) (Or.inl ⟨by kernel_rfl, ?_⟩) (by assumption) ?_
      rotate_left
      · intro w hSw
        (try dsimp only at hSw)
        go_simp
        all_goals (with_reducible rfl)
      try simp only [Act.put, List.getElem_toArray, List.getElem_cons_zero, List.getElem_cons_succ, List.setIfInBounds_toArray, List.set_cons_zero, List.set_cons_succ]
      refine wpAnyH_done (by kernel_rfl) ?_ _
      clear hHeld
      obtain ⟨gm, cp, rfl, hg1, hg2, hcap, hc2⟩ := own_c2 M_3.out (by omega)
      have hpi : ((L.take (i + 1)).map (mv n a' b'))[i]? = some (n * px + a', n * py + b') := by
        rw [List.getElem?_map, List.getElem?_take_of_lt (by omega), HPX.out.1]; rfl
      have HCI := Lib.hid (hc2 i _ hpi)
      have hci := HCI.out.1
      have hci' := HCI.out.2
      have hcap' : (i : Int) < ((i + 1 : Nat) : Int) := by omega
      clear hpi hc2 hg1 hg2
      go_wp2_with fail
      refine (valid_any (n * px + a') (n * py + b') v3).mono ?_
      rw [mv_vd HN.out HPX.out.2.1 HPX.out.2.2]
      rintro e wv ⟨rfl, hbv⟩
      have HXV := Lib.hid (bt HX_3.out hbv)
      have HMV := Lib.hid (own_below M_3.out hbv)
      clear hbv hci hci' HCI
      go_wp2_with fail
      go_roundw
      case rel => exact ⟨i + 1, by omega, by go_num, HMV.out, HXV.out⟩
      case measure => simp [intOf]; omega
    · obtain rfl : i = 4 := by omega
      rw [show ((4 : Nat) : Int) = 4 from rfl]
      obtain ⟨gm, cp, hv, hg1, hg2, hcap, hc2⟩ := own_c2 HM.out (by omega)
      injection hv with hv1 hv2 hv3
      subst hv1 hv3
      clear hv2
      obtain ⟨W2, rfl⟩ : ∃ W2 : World, W2 = wr := ⟨_, rfl⟩
      have HL2 := Lib.hid (show C2 W2 G L ∧ G < W2.heap.size from ⟨HL.out.1.new HB.out HL.out.2, Nat.lt_of_lt_of_le HL.out.2 HB.out.size⟩)
      have HM2 := Lib.hid (show C2 W2 gm (L.map (mv n a' b')) ∧ gm < W2.heap.size from ⟨by rw [List.take_of_length_le (by rw [HLc.out.1]; decide)] at hc2; exact hc2, hg2⟩)
      have HBW := Lib.hid (bt HBL.out HB.out)
      obtain ⟨x0, y0, p0, cx0, cy0⟩ := get_all (i := 0) HLc.out.1 (by decide) HLc.out.2
      obtain ⟨x1, y1, p1, cx1, cy1⟩ := get_all (i := 1) HLc.out.1 (by decide) HLc.out.2
      have HP0 := Lib.hid (And.intro p0 (And.intro cx0 cy0))
      have HP1 := Lib.hid (And.intro p1 (And.intro cx1 cy1))
      clear hc2 hg1 hg2 HM HB HL HPL p0 cx0 cy0 p1 cx1 cy1 hi hlt HT HBL
      go_wp2_with fail
      go_loopw [20] (fun tv wr => ∃ i : Nat, i ≤ 4 ∧ tv = .int .i64 (i : Int) ∧ Below W2.heap.size W2 wr) (fun tv _ => 4 - (intOf tv).toNat)
      case atStart => exact ⟨0, by omega, rfl, Below.refl _ _⟩
      case round =>
        obtain ⟨i, hi, rfl, hbel⟩ := hrel
        have HB := Lib.hid hbel
        clear hbel
        by_cases hlt : i < 4
        · have h0i : (0 : Int) ≤ (i : Int) := by omega
          have hi4 : (i : Int) < 4 := by omega
          obtain ⟨px, py, hp, cx, cy⟩ := get_all HLc.out.1 hlt HLc.out.2
          have HPI := Lib.hid (And.intro hp (And.intro cx cy))
          clear hp cx cy
          obtain ⟨Wo, rfl⟩ : ∃ Wo : World, Wo = wr := ⟨_, rfl⟩
          go_wp2_with fail
          go_loopw [21] (fun tv wr => ∃ j : Nat, j ≤ 4 ∧ tv = .int .i64 (j : Int) ∧ Below W2.heap.size W2 wr) (fun tv _ => 4 - (intOf tv).toNat)
          case atStart => exact ⟨0, by omega, rfl, HB.out⟩
          case round =>
            obtain ⟨j, hj, rfl, hbel⟩ := hrel
            have HBj := Lib.hid hbel
            clear hbel HB
            by_cases hjl : j < 4
            · have h0j : (0 : Int) ≤ (j : Int) := by omega
              have hj4 : (j : Int) < 4 := by omega
              obtain ⟨qx, qy, hq, cx, cy⟩ := get_all HLc.out.1 hjl HLc.out.2
              have HPJ := Lib.hid (And.intro hq (And.intro cx cy))
              clear hq cx cy
              have HCA := Lib.hid (show ∀ w', Below W2.heap.size W2 w' → (w'.cell? ⟨G, i * 2, none⟩ = some (.int .i64 px) ∧ w'.cell? ⟨G, i * 2 + 1, none⟩ = some (.int .i64 py)) ∧ (w'.cell? ⟨G, j * 2, none⟩ = some (.int .i64 qx) ∧ w'.cell? ⟨G, j * 2 + 1, none⟩ = some (.int .i64 qy)) ∧ (w'.cell? ⟨G, 0, none⟩ = some (.int .i64 x0) ∧ w'.cell? ⟨G, 1, none⟩ = some (.int .i64 y0)) ∧ (w'.cell? ⟨G, 2, none⟩ = some (.int .i64 x1) ∧ w'.cell? ⟨G, 3, none⟩ = some (.int .i64 y1)) from fun w' hb => ⟨HL2.out.1.new hb HL2.out.2 i _ HPI.out.1, HL2.out.1.new hb HL2.out.2 j _ HPJ.out.1, HL2.out.1.new hb HL2.out.2 0 _ HP0.out.1, HL2.out.1.new hb HL2.out.2 1 _ HP1.out.1⟩)
              have HCB := Lib.hid (show ∀ w', Below W2.heap.size W2 w' → (w'.cell? ⟨gm, i * 2, none⟩ = some (.int .i64 (n * px + a')) ∧ w'.cell? ⟨gm, i * 2 + 1, none⟩ = some (.int .i64 (n * py + b'))) ∧ (w'.cell? ⟨gm, j * 2, none⟩ = some (.int .i64 (n * qx + a')) ∧ w'.cell? ⟨gm, j * 2 + 1, none⟩ = some (.int .i64 (n * qy + b'))) ∧ (w'.cell? ⟨gm, 0, none⟩ = some (.int .i64 (n * x0 + a')) ∧ w'.cell? ⟨gm, 1, none⟩ = some (.int .i64 (n * y0 + b'))) ∧ (w'.cell? ⟨gm, 2, none⟩ = some (.int .i64 (n * x1 + a')) ∧ w'.cell? ⟨gm, 3, none⟩ = some (.int .i64 (n * y1 + b'))) from fun w' hb => ⟨HM2.out.1.new hb HM2.out.2 i _ (mv_get HPI.out.1), HM2.out.1.new hb HM2.out.2 j _ (mv_get HPJ.out.1), HM2.out.1.new hb HM2.out.2 0 _ (mv_get HP0.out.1), HM2.out.1.new hb HM2.out.2 1 _ (mv_get HP1.out.1)⟩)
              go_wp2_with fail
              obtain ⟨v0, hv0⟩ : ∃ z, World.drew wr = z := ⟨_, rfl⟩
              have HD0 := Lib.hid (show Below wr.heap.size wr v0 by rw [← hv0]; exact (Below.refl _ _).drew)
              have HX_0 := Lib.hid (bt HBj.out HD0.out)
              refine wp_region_held_drew (S := (fun w' : World => w'.cell? ⟨G, i * 2, none⟩ = some (.int .i64 px) ∧ w'.cell? ⟨G, i * 2 + 1, none⟩ = some (.int .i64 py) ∧ w'.cell? ⟨G, j * 2, none⟩ = some (.int .i64 qx) ∧ w'.cell? ⟨G, j * 2 + 1, none⟩ = some (.int .i64 qy) ∧ Below W2.heap.size W2 w')) (by kernel_rfl) ?_ (fun hHeld => ?_)
              · rw [hv0]
                exact ⟨(HCA.out _ HX_0.out).1.1, (HCA.out _ HX_0.out).1.2, (HCA.out _ HX_0.out).2.1.1, (HCA.out _ HX_0.out).2.1.2, HX_0.out⟩
              rw [hv0] at hHeld ⊢
              clear hv0 HD0
              refine wpAnyH_take (i := 0) (v := ?_) rfl (by kernel_rfl) (by kernel_rfl) (by kernel_rfl) (fun _ _ _ h => h) (Or.inl ⟨by kernel_rfl, ?_⟩) (by assumption) ?_
              rotate_left
              · intro w hSw
                (try dsimp only at hSw)
                go_simp
                all_goals (with_reducible rfl)
              try simp only [Act.put, List.getElem_toArray, List.getElem_cons_zero, List.setIfInBounds_toArray, List.set_cons_zero, List.set_cons_succ]
              refine wpAnyH_take (i := 1) (v := ?_) rfl (by kernel_rfl) (by kernel_rfl) (by kernel_rfl) (fun _ _ _ h => h) (Or.inl ⟨by kernel_rfl, ?_⟩) (by assumption) ?_
              rotate_left
              · intro w hSw
                (try dsimp only at hSw)
                go_simp
                all_goals (with_reducible rfl)
              try simp only [Act.put, List.getElem_toArray, List.getElem_cons_zero, List.getElem_cons_succ, List.setIfInBounds_toArray, List.set_cons_zero, List.set_cons_succ]
              refine wpAnyH_take (i := 2) (v := ?_) rfl (by kernel_rfl) (by kernel_rfl) (by kernel_rfl) (fun _ _ _ h => h) (Or.inl ⟨by kernel_rfl, ?_⟩) (by assumption) ?_
              rotate_left
              · intro w hSw
                (try dsimp only at hSw)
                go_simp
                all_goals (with_reducible rfl)
              try simp only [Act.put, List.getElem_toArray, List.getElem_cons_zero, List.getElem_cons_succ, List.setIfInBounds_toArray, List.set_cons_zero, List.set_cons_succ]
              refine wpAnyH_take (i := 3) (v := ?_) rfl (by kernel_rfl) (by kernel_rfl) (by kernel_rfl) (fun _ _ _ h => h) (Or.inl ⟨by kernel_rfl, ?_⟩) (by assumption) ?_
              rotate_left
              · intro w hSw
                (try dsimp only at hSw)
                go_simp
                all_goals (with_reducible rfl)
              try simp only [Act.put, List.getElem_toArray, List.getElem_cons_zero, List.getElem_cons_succ, List.setIfInBounds_toArray, List.set_cons_zero, List.set_cons_succ]
              refine wpAnyH_take (i := 4) (v := ?_) rfl (by kernel_rfl) (by kernel_rfl) (by kernel_rfl) (fun _ _ _ h => h) (Or.inl ⟨by kernel_rfl, ?_⟩) (by assumption) ?_
              rotate_left
              · intro w hSw
                (try dsimp only at hSw)
                go_simp
                all_goals (with_reducible rfl)
              try simp only [Act.put, List.getElem_toArray, List.getElem_cons_zero, List.getElem_cons_succ, List.setIfInBounds_toArray, List.set_cons_zero, List.set_cons_succ]
              refine wpAnyH_take (i := 5) (v := ?_) rfl (by kernel_rfl) (by kernel_rfl) (by kernel_rfl) (fun _ _ _ h => h) (Or.inl ⟨by kernel_rfl, ?_⟩) (by assumption) ?_
              rotate_left
              · intro w hSw
                (try dsimp only at hSw)
                go_simp
                all_goals (with_reducible rfl)
              try simp only [Act.put, List.getElem_toArray, List.getElem_cons_zero, List.getElem_cons_succ, List.setIfInBounds_toArray, List.set_cons_zero, List.set_cons_succ]
              refine wpAnyH_take (i := 6) (v := ?_) rfl (by kernel_rfl) (by kernel_rfl) (by kernel_rfl) (fun _ _ _ h => h) (Or.inl ⟨by kernel_rfl, ?_⟩) (by assumption) ?_
              rotate_left
              · intro w hSw
                (try dsimp only at hSw)
                go_simp
                all_goals (with_reducible rfl)
              try simp only [Act.put, List.getElem_toArray, List.getElem_cons_zero, List.getElem_cons_succ, List.setIfInBounds_toArray, List.set_cons_zero, List.set_cons_succ]
              refine wpAnyH_take (i := 7) (v := ?_) rfl (by kernel_rfl) (by kernel_rfl) (by kernel_rfl) (fun _ _ _ h => h) (Or.inl ⟨by kernel_rfl, ?_⟩) (by assumption) ?_
              rotate_left
              · intro w hSw
                (try dsimp only at hSw)
                go_simp
                all_goals (with_reducible rfl)
              try simp only [Act.put, List.getElem_toArray, List.getElem_cons_zero, List.getElem_cons_succ, List.setIfInBounds_toArray, List.set_cons_zero, List.set_cons_succ]
              refine wpAnyH_take (i := 8) (v := ?_) rfl (by kernel_rfl) (by kernel_rfl) (by kernel_rfl) (fun _ _ _ h => h) (Or.inl ⟨by kernel_rfl, ?_⟩) (by assumption) ?_
              rotate_left
              · intro w hSw
                (try dsimp only at hSw)
                go_simp
                all_goals (with_reducible rfl)
              try simp only [Act.put, List.getElem_toArray, List.getElem_cons_zero, List.getElem_cons_succ, List.setIfInBounds_toArray, List.set_cons_zero, List.set_cons_succ]
              refine wpAnyH_ready (rs := [9]) (by kernel_rfl) (by simp) ?_
              refine AllReadyH.cons rfl (fun K hK => ?_) AllReadyH.nil
              go_simp
              have HB_1 := Lib.hid ((Below.refl v0.heap.size v0).alloc (Nat.le_refl _) (.cells #[.int .i64 0, .int .i64 0, .int .i64 0, .int .i64 0] 64))
              have HP_u_1 := Lib.hid (P4.lit v0 64 (.int .i64 0) (.int .i64 0) (.int .i64 0) (.int .i64 0))
              obtain ⟨v1, hV⟩ : ∃ z, World.alloc v0 (.cells #[.int .i64 0, .int .i64 0, .int .i64 0, .int .i64 0] 64) = z := ⟨_, rfl⟩
              obtain ⟨gu, hg⟩ : ∃ z, v0.heap.size = z := ⟨_, rfl⟩
              rw [hV] at HB_1 HP_u_1  ⊢
              rw [hg] at HP_u_1  ⊢
              have HG_u := Lib.hid (show W2.heap.size ≤ gu by rw [← hg]; exact HX_0.out.size)
              have HX_1 := Lib.hid (bt HX_0.out HB_1.out)
              refine hK.out _ _ (⟨(HCA.out _ HX_1.out).1.1, (HCA.out _ HX_1.out).1.2, (HCA.out _ HX_1.out).2.1.1, (HCA.out _ HX_1.out).2.1.2, HX_1.out⟩) (fun hHeld2 => ?_)
              clear hHeld
              have hHeld := hHeld2
              clear hHeld2 hK K hV hg HB_1 HX_0
              try simp only [Act.put, List.getElem_toArray, List.getElem_cons_zero, List.getElem_cons_succ, List.setIfInBounds_toArray, List.set_cons_zero, List.set_cons_succ]
              refine wpAnyH_ready (rs := [10]) (by kernel_rfl) (by simp) ?_
              refine AllReadyH.cons rfl (fun K hK => ?_) AllReadyH.nil
              obtain ⟨z0, z1, z2, z3⟩ := HP_u_1.out.cells
              have y0 := HP_u_1.out.frozen 0
              have y1 := HP_u_1.out.frozen 1
              have y2 := HP_u_1.out.frozen 2
              have y3 := HP_u_1.out.frozen 3
              have z9 := HP_u_1.out.lt
              go_simp
              obtain ⟨v2, hV⟩ : ∃ z, World.setCell (World.setCell (World.setCell (World.setCell v1 ⟨gu, 0, none⟩ (.int .i64 px)) ⟨gu, 1, none⟩ (.int .i64 py)) ⟨gu, 2, none⟩ (.int .i64 qx)) ⟨gu, 3, none⟩ (.int .i64 qy) = z := ⟨_, rfl⟩
              rw [hV]
              have HX_2 := Lib.hid (show Below W2.heap.size W2 v2 by rw [← hV]; exact below_box4 HX_1.out (HG_u.out) _ _ _ _)
              have HP_u_2 := Lib.hid (show P4 64 v2 gu (.int .i64 px) (.int .i64 py) (.int .i64 qx) (.int .i64 qy) by rw [← hV]; exact HP_u_1.out.all (.int .i64 px) (.int .i64 py) (.int .i64 qx) (.int .i64 qy))
              refine hK.out _ _ (⟨(HCA.out _ HX_2.out).1.1, (HCA.out _ HX_2.out).1.2, (HCA.out _ HX_2.out).2.1.1, (HCA.out _ HX_2.out).2.1.2, HX_2.out⟩) (fun hHeld2 => ?_)
              clear hHeld
              have hHeld := hHeld2
              clear hHeld2 hK K hV z9 z0 z1 z2 z3 y0 y1 y2 y3 HX_1 HP_u_1
              try simp only [Act.put, List.getElem_toArray, List.getElem_cons_zero, List.getElem_cons_succ, List.setIfInBounds_toArray, List.set_cons_zero, List.set_cons_succ]
              refine wpAnyH_done (by kernel_rfl) ?_ _
              clear hHeld
              have HU := Lib.hid HP_u_2.out
              have HXU := Lib.hid HX_2.out
              obtain ⟨wu, hwu⟩ : ∃ z, z = v2 := ⟨_, rfl⟩
              subst hwu
              go_wp2_with fail
              obtain ⟨v0, hv0⟩ : ∃ z, World.drew wu = z := ⟨_, rfl⟩
              have HD0 := Lib.hid (show Below wu.heap.size wu v0 by rw [← hv0]; exact (Below.refl _ _).drew)
              have HX_0 := Lib.hid (bt HXU.out HD0.out)
              have HP_u_0 := Lib.hid (HU.out.new HD0.out)
              refine wp_region_held_drew (S := (fun w' : World => w'.cell? ⟨gm, i * 2, none⟩ = some (.int .i64 (n * px + a')) ∧ w'.cell? ⟨gm, i * 2 + 1, none⟩ = some (.int .i64 (n * py + b')) ∧ w'.cell? ⟨gm, j * 2, none⟩ = some (.int .i64 (n * qx + a')) ∧ w'.cell? ⟨gm, j * 2 + 1, none⟩ = some (.int .i64 (n * qy + b')) ∧ Below W2.heap.size W2 w')) (by kernel_rfl) ?_ (fun hHeld => ?_)
              · rw [hv0]
                exact ⟨(HCB.out _ HX_0.out).1.1, (HCB.out _ HX_0.out).1.2, (HCB.out _ HX_0.out).2.1.1, (HCB.out _ HX_0.out).2.1.2, HX_0.out⟩
              rw [hv0] at hHeld ⊢
              clear hv0 HD0
              refine wpAnyH_take (i := 0) (v := ?_) rfl (by kernel_rfl) (by kernel_rfl) (by kernel_rfl) (fun _ _ _ h => h) (Or.inl ⟨by kernel_rfl, ?_⟩) (by assumption) ?_
              rotate_left
              · intro w hSw
                (try dsimp only at hSw)
                go_simp
                all_goals (with_reducible rfl)
              try simp only [Act.put, List.getElem_toArray, List.getElem_cons_zero, List.setIfInBounds_toArray, List.set_cons_zero, List.set_cons_succ]
              refine wpAnyH_take (i := 1) (v := ?_) rfl (by kernel_rfl) (by kernel_rfl) (by kernel_rfl) (fun _ _ _ h => h) (Or.inl ⟨by kernel_rfl, ?_⟩) (by assumption) ?_
              rotate_left
              · intro w hSw
                (try dsimp only at hSw)
                go_simp
                all_goals (with_reducible rfl)
              try simp only [Act.put, List.getElem_toArray, List.getElem_cons_zero, List.getElem_cons_succ, List.setIfInBounds_toArray, List.set_cons_zero, List.set_cons_succ]
              refine wpAnyH_take (i := 2) (v := ?_) rfl (by kernel_rfl) (by kernel_rfl) (by kernel_rfl) (fun _ _ _ h => h) (Or.inl ⟨by kernel_rfl, ?_⟩) (by assumption) ?_
              rotate_left
              · intro w hSw
                (try dsimp only at hSw)
                go_simp
                all_goals (with_reducible rfl)
              try simp only [Act.put, List.getElem_toArray, List.getElem_cons_zero, List.getElem_cons_succ, List.setIfInBounds_toArray, List.set_cons_zero, List.set_cons_succ]
              refine wpAnyH_take (i := 3) (v := ?_) rfl (by kernel_rfl) (by kernel_rfl) (by kernel_rfl) (fun _ _ _ h => h) (Or.inl ⟨by kernel_rfl, ?_⟩) (by assumption) ?_
              rotate_left
              · intro w hSw
                (try dsimp only at hSw)
                go_simp
                all_goals (with_reducible rfl)
              try simp only [Act.put, List.getElem_toArray, List.getElem_cons_zero, List.getElem_cons_succ, List.setIfInBounds_toArray, List.set_cons_zero, List.set_cons_succ]
              refine wpAnyH_take (i := 4) (v := ?_) rfl (by kernel_rfl) (by kernel_rfl) (by kernel_rfl) (fun _ _ _ h => h) (Or.inl ⟨by kernel_rfl, ?_⟩) (by assumption) ?_
              rotate_left
              · intro w hSw
                (try dsimp only at hSw)
                go_simp
                all_goals (with_reducible rfl)
              try simp only [Act.put, List.getElem_toArray, List.getElem_cons_zero, List.getElem_cons_succ, List.setIfInBounds_toArray, List.set_cons_zero, List.set_cons_succ]
              refine wpAnyH_take (i := 5) (v := ?_) rfl (by kernel_rfl) (by kernel_rfl) (by kernel_rfl) (fun _ _ _ h => h) (Or.inl ⟨by kernel_rfl, ?_⟩) (by assumption) ?_
              rotate_left
              · intro w hSw
                (try dsimp only at hSw)
                go_simp
                all_goals (with_reducible rfl)
              try simp only [Act.put, List.getElem_toArray, List.getElem_cons_zero, List.getElem_cons_succ, List.setIfInBounds_toArray, List.set_cons_zero, List.set_cons_succ]
              refine wpAnyH_take (i := 6) (v := ?_) rfl (by kernel_rfl) (by kernel_rfl) (by kernel_rfl) (fun _ _ _ h => h) (Or.inl ⟨by kernel_rfl, ?_⟩) (by assumption) ?_
              rotate_left
              · intro w hSw
                (try dsimp only at hSw)
                go_simp
                all_goals (with_reducible rfl)
              try simp only [Act.put, List.getElem_toArray, List.getElem_cons_zero, List.getElem_cons_succ, List.setIfInBounds_toArray, List.set_cons_zero, List.set_cons_succ]
              refine wpAnyH_take (i := 7) (v := ?_) rfl (by kernel_rfl) (by kernel_rfl) (by kernel_rfl) (fun _ _ _ h => h) (Or.inl ⟨by kernel_rfl, ?_⟩) (by assumption) ?_
              rotate_left
              · intro w hSw
                (try dsimp only at hSw)
                go_simp
                all_goals (with_reducible rfl)
              try simp only [Act.put, List.getElem_toArray, List.getElem_cons_zero, List.getElem_cons_succ, List.setIfInBounds_toArray, List.set_cons_zero, List.set_cons_succ]
              refine wpAnyH_take (i := 8) (v := ?_) rfl (by kernel_rfl) (by kernel_rfl) (by kernel_rfl) (fun _ _ _ h => h) (Or.inl ⟨by kernel_rfl, ?_⟩) (by assumption) ?_
              rotate_left
              · intro w hSw
                (try dsimp only at hSw)
                go_simp
                all_goals (with_reducible rfl)
              try simp only [Act.put, List.getElem_toArray, List.getElem_cons_zero, List.getElem_cons_succ, List.setIfInBounds_toArray, List.set_cons_zero, List.set_cons_succ]
              refine wpAnyH_ready (rs := [9]) (by kernel_rfl) (by simp) ?_
              refine AllReadyH.cons rfl (fun K hK => ?_) AllReadyH.nil
              go_simp
              have HB_1 := Lib.hid ((Below.refl v0.heap.size v0).alloc (Nat.le_refl _) (.cells #[.int .i64 0, .int .i64 0, .int .i64 0, .int .i64 0] 64))
              have HP_v_1 := Lib.hid (P4.lit v0 64 (.int .i64 0) (.int .i64 0) (.int .i64 0) (.int .i64 0))
              obtain ⟨v1, hV⟩ : ∃ z, World.alloc v0 (.cells #[.int .i64 0, .int .i64 0, .int .i64 0, .int .i64 0] 64) = z := ⟨_, rfl⟩
              obtain ⟨gv, hg⟩ : ∃ z, v0.heap.size = z := ⟨_, rfl⟩
              rw [hV] at HB_1 HP_v_1  ⊢
              rw [hg] at HP_v_1  ⊢
              have HG_v := Lib.hid (show W2.heap.size ≤ gv by rw [← hg]; exact HX_0.out.size)
              have HN_u_v := Lib.hid (show gu ≠ gv by have := HP_u_0.out.lt; rw [hg] at this; omega)
              have HX_1 := Lib.hid (bt HX_0.out HB_1.out)
              have HP_u_1 := Lib.hid (HP_u_0.out.new HB_1.out)
              refine hK.out _ _ (⟨(HCB.out _ HX_1.out).1.1, (HCB.out _ HX_1.out).1.2, (HCB.out _ HX_1.out).2.1.1, (HCB.out _ HX_1.out).2.1.2, HX_1.out⟩) (fun hHeld2 => ?_)
              clear hHeld
              have hHeld := hHeld2
              clear hHeld2 hK K hV hg HB_1 HX_0 HP_u_0
              try simp only [Act.put, List.getElem_toArray, List.getElem_cons_zero, List.getElem_cons_succ, List.setIfInBounds_toArray, List.set_cons_zero, List.set_cons_succ]
              refine wpAnyH_ready (rs := [10]) (by kernel_rfl) (by simp) ?_
              refine AllReadyH.cons rfl (fun K hK => ?_) AllReadyH.nil
              obtain ⟨z0, z1, z2, z3⟩ := HP_v_1.out.cells
              have y0 := HP_v_1.out.frozen 0
              have y1 := HP_v_1.out.frozen 1
              have y2 := HP_v_1.out.frozen 2
              have y3 := HP_v_1.out.frozen 3
              have z9 := HP_v_1.out.lt
              go_simp
              obtain ⟨v2, hV⟩ : ∃ z, World.setCell (World.setCell (World.setCell (World.setCell v1 ⟨gv, 0, none⟩ (.int .i64 (n * px + a'))) ⟨gv, 1, none⟩ (.int .i64 (n * py + b'))) ⟨gv, 2, none⟩ (.int .i64 (n * qx + a'))) ⟨gv, 3, none⟩ (.int .i64 (n * qy + b')) = z := ⟨_, rfl⟩
              rw [hV]
              have HX_2 := Lib.hid (show Below W2.heap.size W2 v2 by rw [← hV]; exact below_box4 HX_1.out (HG_v.out) _ _ _ _)
              have HP_u_2 := Lib.hid (show P4 64 v2 gu (.int .i64 px) (.int .i64 py) (.int .i64 qx) (.int .i64 qy) by rw [← hV]; exact HP_u_1.out.far4 (show gu ≠ gv from HN_u_v.out) (.int .i64 (n * px + a')) (.int .i64 (n * py + b')) (.int .i64 (n * qx + a')) (.int .i64 (n * qy + b')))
              have HP_v_2 := Lib.hid (show P4 64 v2 gv (.int .i64 (n * px + a')) (.int .i64 (n * py + b')) (.int .i64 (n * qx + a')) (.int .i64 (n * qy + b')) by rw [← hV]; exact HP_v_1.out.all (.int .i64 (n * px + a')) (.int .i64 (n * py + b')) (.int .i64 (n * qx + a')) (.int .i64 (n * qy + b')))
              refine hK.out _ _ (⟨(HCB.out _ HX_2.out).1.1, (HCB.out _ HX_2.out).1.2, (HCB.out _ HX_2.out).2.1.1, (HCB.out _ HX_2.out).2.1.2, HX_2.out⟩) (fun hHeld2 => ?_)
              clear hHeld
              have hHeld := hHeld2
              clear hHeld2 hK K hV z9 z0 z1 z2 z3 y0 y1 y2 y3 HX_1 HP_u_1 HP_v_1
              try simp only [Act.put, List.getElem_toArray, List.getElem_cons_zero, List.getElem_cons_succ, List.setIfInBounds_toArray, List.set_cons_zero, List.set_cons_succ]
              refine wpAnyH_done (by kernel_rfl) ?_ _
              clear hHeld
              have HUb := Lib.hid HP_u_2.out
              have HVb := Lib.hid HP_v_2.out
              have HXB := Lib.hid HX_2.out
              obtain ⟨wb, hwb⟩ : ∃ z, z = v2 := ⟨_, rfl⟩
              subst hwb
              have HS : Hid (∀ w', Below wb.heap.size wb w' → (fun w' : World => w'.cell? ⟨G, i * 2, none⟩ = some (.int .i64 px) ∧ w'.cell? ⟨G, i * 2 + 1, none⟩ = some (.int .i64 py) ∧ w'.cell? ⟨G, j * 2, none⟩ = some (.int .i64 qx) ∧ w'.cell? ⟨G, j * 2 + 1, none⟩ = some (.int .i64 qy) ∧ w'.cell? ⟨G, 0, none⟩ = some (.int .i64 x0) ∧ w'.cell? ⟨G, 1, none⟩ = some (.int .i64 y0) ∧ w'.cell? ⟨G, 2, none⟩ = some (.int .i64 x1) ∧ w'.cell? ⟨G, 3, none⟩ = some (.int .i64 y1) ∧ w'.cell? ⟨gm, i * 2, none⟩ = some (.int .i64 (n * px + a')) ∧ w'.cell? ⟨gm, i * 2 + 1, none⟩ = some (.int .i64 (n * py + b')) ∧ w'.cell? ⟨gm, j * 2, none⟩ = some (.int .i64 (n * qx + a')) ∧ w'.cell? ⟨gm, j * 2 + 1, none⟩ = some (.int .i64 (n * qy + b')) ∧ w'.cell? ⟨gm, 0, none⟩ = some (.int .i64 (n * x0 + a')) ∧ w'.cell? ⟨gm, 1, none⟩ = some (.int .i64 (n * y0 + b')) ∧ w'.cell? ⟨gm, 2, none⟩ = some (.int .i64 (n * x1 + a')) ∧ w'.cell? ⟨gm, 3, none⟩ = some (.int .i64 (n * y1 + b')) ∧ w'.cell? ⟨gu, 0, none⟩ = some (.int .i64 px) ∧ w'.cell? ⟨gu, 1, none⟩ = some (.int .i64 py) ∧ w'.cell? ⟨gu, 2, none⟩ = some (.int .i64 qx) ∧ w'.cell? ⟨gu, 3, none⟩ = some (.int .i64 qy) ∧ w'.cell? ⟨gv, 0, none⟩ = some (.int .i64 (n * px + a')) ∧ w'.cell? ⟨gv, 1, none⟩ = some (.int .i64 (n * py + b')) ∧ w'.cell? ⟨gv, 2, none⟩ = some (.int .i64 (n * qx + a')) ∧ w'.cell? ⟨gv, 3, none⟩ = some (.int .i64 (n * qy + b')) ∧ Below wb.heap.size wb w') w') := Lib.hid (fun w' hb => ⟨(HCA.out _ (bt HXB.out hb)).1.1, (HCA.out _ (bt HXB.out hb)).1.2, (HCA.out _ (bt HXB.out hb)).2.1.1, (HCA.out _ (bt HXB.out hb)).2.1.2, (HCA.out _ (bt HXB.out hb)).2.2.1.1, (HCA.out _ (bt HXB.out hb)).2.2.1.2, (HCA.out _ (bt HXB.out hb)).2.2.2.1, (HCA.out _ (bt HXB.out hb)).2.2.2.2, (HCB.out _ (bt HXB.out hb)).1.1, (HCB.out _ (bt HXB.out hb)).1.2, (HCB.out _ (bt HXB.out hb)).2.1.1, (HCB.out _ (bt HXB.out hb)).2.1.2, (HCB.out _ (bt HXB.out hb)).2.2.1.1, (HCB.out _ (bt HXB.out hb)).2.2.1.2, (HCB.out _ (bt HXB.out hb)).2.2.2.1, (HCB.out _ (bt HXB.out hb)).2.2.2.2, (HUb.out.new hb).cells.1, (HUb.out.new hb).cells.2.1, (HUb.out.new hb).cells.2.2.1, (HUb.out.new hb).cells.2.2.2, (HVb.out.new hb).cells.1, (HVb.out.new hb).cells.2.1, (HVb.out.new hb).cells.2.2.1, (HVb.out.new hb).cells.2.2.2, hb⟩)
              have HXX := Lib.hid (Below.refl wb.heap.size wb)
              obtain ⟨r1, hr1⟩ : ∃ z, pcV px 1 py 1 qx 1 qy 1 = z := ⟨_, rfl⟩
              obtain ⟨r2, hr2⟩ : ∃ z, inV px py qx qy x0 1 y0 1 = z := ⟨_, rfl⟩
              obtain ⟨r3, hr3⟩ : ∃ z, mtV px py qx qy x0 y0 x1 y1 = z := ⟨_, rfl⟩
              have HR := Lib.hid (And.intro hr1 (And.intro hr2 hr3))
              clear hr1 hr2 hr3
              go_wp2_with fail
              obtain ⟨v0, hv0⟩ : ∃ z, World.drew wb = z := ⟨_, rfl⟩
              have HD0 := Lib.hid (show Below wb.heap.size wb v0 by rw [← hv0]; exact (Below.refl _ _).drew)
              have HX_0 := Lib.hid (bt HXX.out HD0.out)
              refine wp_region_held_drew (S := (fun w' : World => w'.cell? ⟨G, i * 2, none⟩ = some (.int .i64 px) ∧ w'.cell? ⟨G, i * 2 + 1, none⟩ = some (.int .i64 py) ∧ w'.cell? ⟨G, j * 2, none⟩ = some (.int .i64 qx) ∧ w'.cell? ⟨G, j * 2 + 1, none⟩ = some (.int .i64 qy) ∧ w'.cell? ⟨G, 0, none⟩ = some (.int .i64 x0) ∧ w'.cell? ⟨G, 1, none⟩ = some (.int .i64 y0) ∧ w'.cell? ⟨G, 2, none⟩ = some (.int .i64 x1) ∧ w'.cell? ⟨G, 3, none⟩ = some (.int .i64 y1) ∧ w'.cell? ⟨gm, i * 2, none⟩ = some (.int .i64 (n * px + a')) ∧ w'.cell? ⟨gm, i * 2 + 1, none⟩ = some (.int .i64 (n * py + b')) ∧ w'.cell? ⟨gm, j * 2, none⟩ = some (.int .i64 (n * qx + a')) ∧ w'.cell? ⟨gm, j * 2 + 1, none⟩ = some (.int .i64 (n * qy + b')) ∧ w'.cell? ⟨gm, 0, none⟩ = some (.int .i64 (n * x0 + a')) ∧ w'.cell? ⟨gm, 1, none⟩ = some (.int .i64 (n * y0 + b')) ∧ w'.cell? ⟨gm, 2, none⟩ = some (.int .i64 (n * x1 + a')) ∧ w'.cell? ⟨gm, 3, none⟩ = some (.int .i64 (n * y1 + b')) ∧ w'.cell? ⟨gu, 0, none⟩ = some (.int .i64 px) ∧ w'.cell? ⟨gu, 1, none⟩ = some (.int .i64 py) ∧ w'.cell? ⟨gu, 2, none⟩ = some (.int .i64 qx) ∧ w'.cell? ⟨gu, 3, none⟩ = some (.int .i64 qy) ∧ w'.cell? ⟨gv, 0, none⟩ = some (.int .i64 (n * px + a')) ∧ w'.cell? ⟨gv, 1, none⟩ = some (.int .i64 (n * py + b')) ∧ w'.cell? ⟨gv, 2, none⟩ = some (.int .i64 (n * qx + a')) ∧ w'.cell? ⟨gv, 3, none⟩ = some (.int .i64 (n * qy + b')) ∧ Below wb.heap.size wb w')) (by kernel_rfl) ?_ (fun hHeld => ?_)
              · rw [hv0]
                exact HS.out _ HX_0.out
              rw [hv0] at hHeld ⊢
              clear hv0 HD0
              refine wpAnyH_take (i := 0) (v := ?_) rfl (by kernel_rfl) (by kernel_rfl) (by kernel_rfl) (fun _ _ _ h => h) (Or.inl ⟨by kernel_rfl, ?_⟩) (by assumption) ?_
              rotate_left
              · intro w hSw
                (try dsimp only at hSw)
                go_simp
                all_goals (with_reducible rfl)
              try simp only [Act.put, List.getElem_toArray, List.getElem_cons_zero, List.setIfInBounds_toArray, List.set_cons_zero, List.set_cons_succ]
              refine wpAnyH_take (i := 1) (v := ?_) rfl (by kernel_rfl) (by kernel_rfl) (by kernel_rfl) (fun _ _ _ h => h) (Or.inl ⟨by kernel_rfl, ?_⟩) (by assumption) ?_
              rotate_left
              · intro w hSw
                (try dsimp only at hSw)
                go_simp
                all_goals (with_reducible rfl)
              try simp only [Act.put, List.getElem_toArray, List.getElem_cons_zero, List.getElem_cons_succ, List.setIfInBounds_toArray, List.set_cons_zero, List.set_cons_succ]
              refine wpAnyH_take (i := 2) (v := ?_) rfl (by kernel_rfl) (by kernel_rfl) (by kernel_rfl) (fun _ _ _ h => h) (Or.inl ⟨by kernel_rfl, ?_⟩) (by assumption) ?_
              rotate_left
              · intro w hSw
                (try dsimp only at hSw)
                go_simp
                all_goals (with_reducible rfl)
              try simp only [Act.put, List.getElem_toArray, List.getElem_cons_zero, List.getElem_cons_succ, List.setIfInBounds_toArray, List.set_cons_zero, List.set_cons_succ]
              refine wpAnyH_take (i := 3) (v := ?_) rfl (by kernel_rfl) (by kernel_rfl) (by kernel_rfl) (fun _ _ _ h => h) (Or.inl ⟨by kernel_rfl, ?_⟩) (by assumption) ?_
              rotate_left
              · intro w hSw
                (try dsimp only at hSw)
                go_simp
                all_goals (with_reducible rfl)
              try simp only [Act.put, List.getElem_toArray, List.getElem_cons_zero, List.getElem_cons_succ, List.setIfInBounds_toArray, List.set_cons_zero, List.set_cons_succ]
              refine wpAnyH_take (i := 5) (v := ?_) rfl (by kernel_rfl) (by kernel_rfl) (by kernel_rfl) (fun _ _ _ h => h) (Or.inl ⟨by kernel_rfl, ?_⟩) (by assumption) ?_
              rotate_left
              · intro w hSw
                (try dsimp only at hSw)
                go_simp
                all_goals (with_reducible rfl)
              try simp only [Act.put, List.getElem_toArray, List.getElem_cons_zero, List.getElem_cons_succ, List.setIfInBounds_toArray, List.set_cons_zero, List.set_cons_succ]
              refine wpAnyH_take (i := 6) (v := ?_) rfl (by kernel_rfl) (by kernel_rfl) (by kernel_rfl) (fun _ _ _ h => h) (Or.inl ⟨by kernel_rfl, ?_⟩) (by assumption) ?_
              rotate_left
              · intro w hSw
                (try dsimp only at hSw)
                go_simp
                all_goals (with_reducible rfl)
              try simp only [Act.put, List.getElem_toArray, List.getElem_cons_zero, List.getElem_cons_succ, List.setIfInBounds_toArray, List.set_cons_zero, List.set_cons_succ]
              refine wpAnyH_take (i := 7) (v := ?_) rfl (by kernel_rfl) (by kernel_rfl) (by kernel_rfl) (fun _ _ _ h => h) (Or.inl ⟨by kernel_rfl, ?_⟩) (by assumption) ?_
              rotate_left
              · intro w hSw
                (try dsimp only at hSw)
                go_simp
                all_goals (with_reducible rfl)
              try simp only [Act.put, List.getElem_toArray, List.getElem_cons_zero, List.getElem_cons_succ, List.setIfInBounds_toArray, List.set_cons_zero, List.set_cons_succ]
              refine wpAnyH_take (i := 8) (v := ?_) rfl (by kernel_rfl) (by kernel_rfl) (by kernel_rfl) (fun _ _ _ h => h) (Or.inl ⟨by kernel_rfl, ?_⟩) (by assumption) ?_
              rotate_left
              · intro w hSw
                (try dsimp only at hSw)
                go_simp
                all_goals (with_reducible rfl)
              try simp only [Act.put, List.getElem_toArray, List.getElem_cons_zero, List.getElem_cons_succ, List.setIfInBounds_toArray, List.set_cons_zero, List.set_cons_succ]
              refine wpAnyH_take (i := 11) (v := ?_) rfl (by kernel_rfl) (by kernel_rfl) (by kernel_rfl) (fun _ _ _ h => h) (Or.inl ⟨by kernel_rfl, ?_⟩) (by assumption) ?_
              rotate_left
              · intro w hSw
                (try dsimp only at hSw)
                go_simp
                all_goals (with_reducible rfl)
              try simp only [Act.put, List.getElem_toArray, List.getElem_cons_zero, List.getElem_cons_succ, List.setIfInBounds_toArray, List.set_cons_zero, List.set_cons_succ]
              refine wpAnyH_take (i := 12) (v := ?_) rfl (by kernel_rfl) (by kernel_rfl) (by kernel_rfl) (fun _ _ _ h => h) (Or.inl ⟨by kernel_rfl, ?_⟩) (by assumption) ?_
              rotate_left
              · intro w hSw
                (try dsimp only at hSw)
                go_simp
                all_goals (with_reducible rfl)
              try simp only [Act.put, List.getElem_toArray, List.getElem_cons_zero, List.getElem_cons_succ, List.setIfInBounds_toArray, List.set_cons_zero, List.set_cons_succ]
              refine wpAnyH_take (i := 13) (v := ?_) rfl (by kernel_rfl) (by kernel_rfl) (by kernel_rfl) (fun _ _ _ h => h) (Or.inl ⟨by kernel_rfl, ?_⟩) (by assumption) ?_
              rotate_left
              · intro w hSw
                (try dsimp only at hSw)
                go_simp
                all_goals (with_reducible rfl)
              try simp only [Act.put, List.getElem_toArray, List.getElem_cons_zero, List.getElem_cons_succ, List.setIfInBounds_toArray, List.set_cons_zero, List.set_cons_succ]
              refine wpAnyH_take (i := 14) (v := ?_) rfl (by kernel_rfl) (by kernel_rfl) (by kernel_rfl) (fun _ _ _ h => h) (Or.inl ⟨by kernel_rfl, ?_⟩) (by assumption) ?_
              rotate_left
              · intro w hSw
                (try dsimp only at hSw)
                go_simp
                all_goals (with_reducible rfl)
              try simp only [Act.put, List.getElem_toArray, List.getElem_cons_zero, List.getElem_cons_succ, List.setIfInBounds_toArray, List.set_cons_zero, List.set_cons_succ]
              refine wpAnyH_take (i := 16) (v := ?_) rfl (by kernel_rfl) (by kernel_rfl) (by kernel_rfl) (fun _ _ _ h => h) (Or.inl ⟨by kernel_rfl, ?_⟩) (by assumption) ?_
              rotate_left
              · intro w hSw
                (try dsimp only at hSw)
                go_simp
                all_goals (with_reducible rfl)
              try simp only [Act.put, List.getElem_toArray, List.getElem_cons_zero, List.getElem_cons_succ, List.setIfInBounds_toArray, List.set_cons_zero, List.set_cons_succ]
              refine wpAnyH_take (i := 17) (v := ?_) rfl (by kernel_rfl) (by kernel_rfl) (by kernel_rfl) (fun _ _ _ h => h) (Or.inl ⟨by kernel_rfl, ?_⟩) (by assumption) ?_
              rotate_left
              · intro w hSw
                (try dsimp only at hSw)
                go_simp
                all_goals (with_reducible rfl)
              try simp only [Act.put, List.getElem_toArray, List.getElem_cons_zero, List.getElem_cons_succ, List.setIfInBounds_toArray, List.set_cons_zero, List.set_cons_succ]
              refine wpAnyH_take (i := 18) (v := ?_) rfl (by kernel_rfl) (by kernel_rfl) (by kernel_rfl) (fun _ _ _ h => h) (Or.inl ⟨by kernel_rfl, ?_⟩) (by assumption) ?_
              rotate_left
              · intro w hSw
                (try dsimp only at hSw)
                go_simp
                all_goals (with_reducible rfl)
              try simp only [Act.put, List.getElem_toArray, List.getElem_cons_zero, List.getElem_cons_succ, List.setIfInBounds_toArray, List.set_cons_zero, List.set_cons_succ]
              refine wpAnyH_take (i := 19) (v := ?_) rfl (by kernel_rfl) (by kernel_rfl) (by kernel_rfl) (fun _ _ _ h => h) (Or.inl ⟨by kernel_rfl, ?_⟩) (by assumption) ?_
              rotate_left
              · intro w hSw
                (try dsimp only at hSw)
                go_simp
                all_goals (with_reducible rfl)
              try simp only [Act.put, List.getElem_toArray, List.getElem_cons_zero, List.getElem_cons_succ, List.setIfInBounds_toArray, List.set_cons_zero, List.set_cons_succ]
              refine wpAnyH_ready (rs := [4]) (by kernel_rfl) (by simp) ?_
              refine AllReadyH.cons rfl (fun K hK => ?_) AllReadyH.nil
              go_simp
              go_at_call_of 26 (Value.agg #[.int .i64 px, .int .i64 py])
              refine (pof_any px py v0 (co_wf HPI.out.2.1) (co_wf HPI.out.2.2)).mono ?_
              rintro e v1 ⟨s0, A0, n0, c0, t0, B0, m0, d0, s1, A1, n1, c1, t1, B1, m1, d1, rfl, hr1, hr2, hk⟩
              have F0_1 := Lib.hid (hr1)
              have F1_1 := Lib.hid (hr2)
              have HB_1 := Lib.hid hk
              go_wp2_with fail
              have HX_1 := Lib.hid (bt HX_0.out HB_1.out)
              refine hK.out _ _ (HS.out _ HX_1.out) (fun hHeld2 => ?_)
              clear hHeld
              have hHeld := hHeld2
              clear hHeld2 hK K hk HB_1 hr1 hr2 HX_0
              try simp only [Act.put, List.getElem_toArray, List.getElem_cons_zero, List.getElem_cons_succ, List.setIfInBounds_toArray, List.set_cons_zero, List.set_cons_succ]
              refine wpAnyH_ready (rs := [9]) (by kernel_rfl) (by simp) ?_
              refine AllReadyH.cons rfl (fun K hK => ?_) AllReadyH.nil
              go_simp
              go_at_call_of 26 (Value.agg #[.int .i64 qx, .int .i64 qy])
              refine (pof_any qx qy v1 (co_wf HPJ.out.2.1) (co_wf HPJ.out.2.2)).mono ?_
              rintro e v2 ⟨s2, A2, n2, c2, t2, B2, m2, d2, s3, A3, n3, c3, t3, B3, m3, d3, rfl, hr1, hr2, hk⟩
              have F2_2 := Lib.hid (hr1)
              have F3_2 := Lib.hid (hr2)
              have HB_2 := Lib.hid hk
              go_wp2_with fail
              have HX_2 := Lib.hid (bt HX_1.out HB_2.out)
              have F0_2 := Lib.hid ((F0_1.out).new HB_2.out)
              have F1_2 := Lib.hid ((F1_1.out).new HB_2.out)
              refine hK.out _ _ (HS.out _ HX_2.out) (fun hHeld2 => ?_)
              clear hHeld
              have hHeld := hHeld2
              clear hHeld2 hK K hk HB_2 hr1 hr2 HX_1 F0_1 F1_1
              try simp only [Act.put, List.getElem_toArray, List.getElem_cons_zero, List.getElem_cons_succ, List.setIfInBounds_toArray, List.set_cons_zero, List.set_cons_succ]
              refine wpAnyH_ready (rs := [10]) (by kernel_rfl) (by simp) ?_
              refine AllReadyH.cons rfl (fun K hK => ?_) AllReadyH.nil
              go_simp
              go_at_call 9
              refine (ptcompare_any px 1 py 1 qx 1 qy 1 s0 A0 n0 c0 t0 B0 m0 d0 s1 A1 n1 c1 t1 B1 m1 d1 s2 A2 n2 c2 t2 B2 m2 d2 s3 A3 n3 c3 t3 B3 m3 d3 v2 F0_2.out F1_2.out F2_2.out F3_2.out ⟨⟨by decide, i64_lim (co_wf HPI.out.2.1), one_lim⟩, ⟨by decide, i64_lim (co_wf HPI.out.2.2), one_lim⟩, ⟨by decide, i64_lim (co_wf HPJ.out.2.1), one_lim⟩, ⟨by decide, i64_lim (co_wf HPJ.out.2.2), one_lim⟩⟩).mono ?_
              rw [HR.out.1]
              rintro e v3 ⟨rfl, hk⟩
              have HB_3 := Lib.hid hk
              go_wp2_with fail
              clear F0_2
              clear F1_2
              clear F2_2
              clear F3_2
              have HX_3 := Lib.hid (bt HX_2.out HB_3.out)
              refine hK.out _ _ (HS.out _ HX_3.out) (fun hHeld2 => ?_)
              clear hHeld
              have hHeld := hHeld2
              clear hHeld2 hK K hk HB_3 HX_2
              try simp only [Act.put, List.getElem_toArray, List.getElem_cons_zero, List.getElem_cons_succ, List.setIfInBounds_toArray, List.set_cons_zero, List.set_cons_succ]
              refine wpAnyH_ready (rs := [15]) (by kernel_rfl) (by simp) ?_
              refine AllReadyH.cons rfl (fun K hK => ?_) AllReadyH.nil
              go_simp
              go_at_call_of 26 (Value.agg #[.int .i64 (n * px + a'), .int .i64 (n * py + b')])
              refine (pof_any (n * px + a') (n * py + b') v3 (mv_wf HN.out.1 HPI.out.2.1 HN.out.2.1) (mv_wf HN.out.1 HPI.out.2.2 HN.out.2.2)).mono ?_
              rintro e v4 ⟨s4, A4, n4, c4, t4, B4, m4, d4, s5, A5, n5, c5, t5, B5, m5, d5, rfl, hr1, hr2, hk⟩
              have F4_4 := Lib.hid (hr1)
              have F5_4 := Lib.hid (hr2)
              have HB_4 := Lib.hid hk
              go_wp2_with fail
              have HX_4 := Lib.hid (bt HX_3.out HB_4.out)
              refine hK.out _ _ (HS.out _ HX_4.out) (fun hHeld2 => ?_)
              clear hHeld
              have hHeld := hHeld2
              clear hHeld2 hK K hk HB_4 hr1 hr2 HX_3
              try simp only [Act.put, List.getElem_toArray, List.getElem_cons_zero, List.getElem_cons_succ, List.setIfInBounds_toArray, List.set_cons_zero, List.set_cons_succ]
              refine wpAnyH_ready (rs := [20]) (by kernel_rfl) (by simp) ?_
              refine AllReadyH.cons rfl (fun K hK => ?_) AllReadyH.nil
              go_simp
              go_at_call_of 26 (Value.agg #[.int .i64 (n * qx + a'), .int .i64 (n * qy + b')])
              refine (pof_any (n * qx + a') (n * qy + b') v4 (mv_wf HN.out.1 HPJ.out.2.1 HN.out.2.1) (mv_wf HN.out.1 HPJ.out.2.2 HN.out.2.2)).mono ?_
              rintro e v5 ⟨s6, A6, n6, c6, t6, B6, m6, d6, s7, A7, n7, c7, t7, B7, m7, d7, rfl, hr1, hr2, hk⟩
              have F6_5 := Lib.hid (hr1)
              have F7_5 := Lib.hid (hr2)
              have HB_5 := Lib.hid hk
              go_wp2_with fail
              have HX_5 := Lib.hid (bt HX_4.out HB_5.out)
              have F4_5 := Lib.hid ((F4_4.out).new HB_5.out)
              have F5_5 := Lib.hid ((F5_4.out).new HB_5.out)
              refine hK.out _ _ (HS.out _ HX_5.out) (fun hHeld2 => ?_)
              clear hHeld
              have hHeld := hHeld2
              clear hHeld2 hK K hk HB_5 hr1 hr2 HX_4 F4_4 F5_4
              try simp only [Act.put, List.getElem_toArray, List.getElem_cons_zero, List.getElem_cons_succ, List.setIfInBounds_toArray, List.set_cons_zero, List.set_cons_succ]
              refine wpAnyH_ready (rs := [21]) (by kernel_rfl) (by simp) ?_
              refine AllReadyH.cons rfl (fun K hK => ?_) AllReadyH.nil
              go_simp
              go_at_call 9
              refine (ptcompare_any (n * px + a') 1 (n * py + b') 1 (n * qx + a') 1 (n * qy + b') 1 s4 A4 n4 c4 t4 B4 m4 d4 s5 A5 n5 c5 t5 B5 m5 d5 s6 A6 n6 c6 t6 B6 m6 d6 s7 A7 n7 c7 t7 B7 m7 d7 v5 F4_5.out F5_5.out F6_5.out F7_5.out ⟨⟨by decide, i64_lim (mv_wf HN.out.1 HPI.out.2.1 HN.out.2.1), one_lim⟩, ⟨by decide, i64_lim (mv_wf HN.out.1 HPI.out.2.2 HN.out.2.2), one_lim⟩, ⟨by decide, i64_lim (mv_wf HN.out.1 HPJ.out.2.1 HN.out.2.1), one_lim⟩, ⟨by decide, i64_lim (mv_wf HN.out.1 HPJ.out.2.2 HN.out.2.2), one_lim⟩⟩).mono ?_
              rw [mv_pc HN.out.1.1, HR.out.1]
              rintro e v6 ⟨rfl, hk⟩
              have HB_6 := Lib.hid hk
              go_wp2_with fail
              clear F4_5
              clear F5_5
              clear F6_5
              clear F7_5
              have HX_6 := Lib.hid (bt HX_5.out HB_6.out)
              refine hK.out _ _ (HS.out _ HX_6.out) (fun hHeld2 => ?_)
              clear hHeld
              have hHeld := hHeld2
              clear hHeld2 hK K hk HB_6 HX_5
              try simp only [Act.put, List.getElem_toArray, List.getElem_cons_zero, List.getElem_cons_succ, List.setIfInBounds_toArray, List.set_cons_zero, List.set_cons_succ]
              refine wpAnyH_take (i := 22) (v := ?_) rfl (by kernel_rfl) (by kernel_rfl) (by kernel_rfl) (fun _ _ _ h => h) (Or.inl ⟨by kernel_rfl, ?_⟩) (by assumption) ?_
              rotate_left
              · intro w hSw
                (try dsimp only at hSw)
                go_simp
                all_goals (with_reducible rfl)
              try simp only [Act.put, List.getElem_toArray, List.getElem_cons_zero, List.getElem_cons_succ, List.setIfInBounds_toArray, List.set_cons_zero, List.set_cons_succ]
              refine wpAnyH_take (i := 23) (v := ?_) rfl (by kernel_rfl) (by kernel_rfl) (by kernel_rfl) (fun _ _ _ h => h) (Or.inl ⟨by kernel_rfl, ?_⟩) (by assumption) ?_
              rotate_left
              · intro w hSw
                (try dsimp only at hSw)
                go_simp
                all_goals (with_reducible rfl)
              try simp only [Act.put, List.getElem_toArray, List.getElem_cons_zero, List.getElem_cons_succ, List.setIfInBounds_toArray, List.set_cons_zero, List.set_cons_succ]
              refine wpAnyH_take (i := 24) (v := ?_) rfl (by kernel_rfl) (by kernel_rfl) (by kernel_rfl) (fun _ _ _ h => h) (Or.inl ⟨by kernel_rfl, ?_⟩) (by assumption) ?_
              rotate_left
              · intro w hSw
                (try dsimp only at hSw)
                go_simp
                all_goals (with_reducible rfl)
              try simp only [Act.put, List.getElem_toArray, List.getElem_cons_zero, List.getElem_cons_succ, List.setIfInBounds_toArray, List.set_cons_zero, List.set_cons_succ]
              refine wpAnyH_take (i := 25) (v := ?_) rfl (by kernel_rfl) (by kernel_rfl) (by kernel_rfl) (fun _ _ _ h => h) (Or.inl ⟨by kernel_rfl, ?_⟩) (by assumption) ?_
              rotate_left
              · intro w hSw
                (try dsimp only at hSw)
                go_simp
                all_goals (with_reducible rfl)
              try simp only [Act.put, List.getElem_toArray, List.getElem_cons_zero, List.getElem_cons_succ, List.setIfInBounds_toArray, List.set_cons_zero, List.set_cons_succ]
              refine wpAnyH_take (i := 26) (v := ?_) rfl (by kernel_rfl) (by kernel_rfl) (by kernel_rfl) (fun _ _ _ h => h) (Or.inl ⟨by kernel_rfl, ?_⟩) (by assumption) ?_
              rotate_left
              · intro w hSw
                (try dsimp only at hSw)
                go_simp
                all_goals (with_reducible rfl)
              try simp only [Act.put, List.getElem_toArray, List.getElem_cons_zero, List.getElem_cons_succ, List.setIfInBounds_toArray, List.set_cons_zero, List.set_cons_succ]
              refine wpAnyH_take (i := 27) (v := ?_) rfl (by kernel_rfl) (by kernel_rfl) (by kernel_rfl) (fun _ _ _ h => h) (Or.inl ⟨by kernel_rfl, ?_⟩) (by assumption) ?_
              rotate_left
              · intro w hSw
                (try dsimp only at hSw)
                go_simp
                all_goals (with_reducible rfl)
              try simp only [Act.put, List.getElem_toArray, List.getElem_cons_zero, List.getElem_cons_succ, List.setIfInBounds_toArray, List.set_cons_zero, List.set_cons_succ]
              refine wpAnyH_take (i := 30) (v := ?_) rfl (by kernel_rfl) (by kernel_rfl) (by kernel_rfl) (fun _ _ _ h => h) (Or.inl ⟨by kernel_rfl, ?_⟩) (by assumption) ?_
              rotate_left
              · intro w hSw
                (try dsimp only at hSw)
                go_simp
                all_goals (with_reducible rfl)
              try simp only [Act.put, List.getElem_toArray, List.getElem_cons_zero, List.getElem_cons_succ, List.setIfInBounds_toArray, List.set_cons_zero, List.set_cons_succ]
              refine wpAnyH_take (i := 31) (v := ?_) rfl (by kernel_rfl) (by kernel_rfl) (by kernel_rfl) (fun _ _ _ h => h) (Or.inl ⟨by kernel_rfl, ?_⟩) (by assumption) ?_
              rotate_left
              · intro w hSw
                (try dsimp only at hSw)
                go_simp
                all_goals (with_reducible rfl)
              try simp only [Act.put, List.getElem_toArray, List.getElem_cons_zero, List.getElem_cons_succ, List.setIfInBounds_toArray, List.set_cons_zero, List.set_cons_succ]
              refine wpAnyH_take (i := 32) (v := ?_) rfl (by kernel_rfl) (by kernel_rfl) (by kernel_rfl) (fun _ _ _ h => h) (Or.inl ⟨by kernel_rfl, ?_⟩) (by assumption) ?_
              rotate_left
              · intro w hSw
                (try dsimp only at hSw)
                go_simp
                all_goals (with_reducible rfl)
              try simp only [Act.put, List.getElem_toArray, List.getElem_cons_zero, List.getElem_cons_succ, List.setIfInBounds_toArray, List.set_cons_zero, List.set_cons_succ]
              refine wpAnyH_take (i := 33) (v := ?_) rfl (by kernel_rfl) (by kernel_rfl) (by kernel_rfl) (fun _ _ _ h => h) (Or.inl ⟨by kernel_rfl, ?_⟩) (by assumption) ?_
              rotate_left
              · intro w hSw
                (try dsimp only at hSw)
                go_simp
                all_goals (with_reducible rfl)
              try simp only [Act.put, List.getElem_toArray, List.getElem_cons_zero, List.getElem_cons_succ, List.setIfInBounds_toArray, List.set_cons_zero, List.set_cons_succ]
              refine wpAnyH_ready (rs := [28]) (by kernel_rfl) (by simp) ?_
              refine AllReadyH.cons rfl (fun K hK => ?_) AllReadyH.nil
              go_simp
              go_at_call_of 26 (Value.agg #[.int .i64 x0, .int .i64 y0])
              refine (pof_any x0 y0 v6 (co_wf HP0.out.2.1) (co_wf HP0.out.2.2)).mono ?_
              rintro e v7 ⟨s8, A8, n8, c8, t8, B8, m8, d8, s9, A9, n9, c9, t9, B9, m9, d9, rfl, hr1, hr2, hk⟩
              have F8_7 := Lib.hid (hr1)
              have F9_7 := Lib.hid (hr2)
              have HB_7 := Lib.hid hk
              go_wp2_with fail
              have HX_7 := Lib.hid (bt HX_6.out HB_7.out)
              refine hK.out _ _ (HS.out _ HX_7.out) (fun hHeld2 => ?_)
              clear hHeld
              have hHeld := hHeld2
              clear hHeld2 hK K hk HB_7 hr1 hr2 HX_6
              try simp only [Act.put, List.getElem_toArray, List.getElem_cons_zero, List.getElem_cons_succ, List.setIfInBounds_toArray, List.set_cons_zero, List.set_cons_succ]
              refine wpAnyH_ready (rs := [29]) (by kernel_rfl) (by simp) ?_
              refine AllReadyH.cons rfl (fun K hK => ?_) AllReadyH.nil
              go_simp
              go_at_call 29
              refine (in_any px py qx qy x0 1 y0 1 s8 A8 n8 c8 t8 B8 m8 d8 s9 A9 n9 c9 t9 B9 m9 d9 v7 F8_7.out F9_7.out ⟨⟨by decide, i64_lim (co_wf HP0.out.2.1), one_lim⟩, ⟨by decide, i64_lim (co_wf HP0.out.2.2), one_lim⟩⟩ ⟨co_wf HPI.out.2.1, co_wf HPI.out.2.2, co_wf HPJ.out.2.1, co_wf HPJ.out.2.2⟩).mono ?_
              rw [HR.out.2.1]
              rintro e v8 ⟨rfl, hk⟩
              have HB_8 := Lib.hid hk
              go_wp2_with fail
              clear F8_7
              clear F9_7
              have HX_8 := Lib.hid (bt HX_7.out HB_8.out)
              refine hK.out _ _ (HS.out _ HX_8.out) (fun hHeld2 => ?_)
              clear hHeld
              have hHeld := hHeld2
              clear hHeld2 hK K hk HB_8 HX_7
              try simp only [Act.put, List.getElem_toArray, List.getElem_cons_zero, List.getElem_cons_succ, List.setIfInBounds_toArray, List.set_cons_zero, List.set_cons_succ]
              refine wpAnyH_ready (rs := [34]) (by kernel_rfl) (by simp) ?_
              refine AllReadyH.cons rfl (fun K hK => ?_) AllReadyH.nil
              go_simp
              go_at_call_of 26 (Value.agg #[.int .i64 (n * x0 + a'), .int .i64 (n * y0 + b')])
              refine (pof_any (n * x0 + a') (n * y0 + b') v8 (mv_wf HN.out.1 HP0.out.2.1 HN.out.2.1) (mv_wf HN.out.1 HP0.out.2.2 HN.out.2.2)).mono ?_
              rintro e v9 ⟨s10, A10, n10, c10, t10, B10, m10, d10, s11, A11, n11, c11, t11, B11, m11, d11, rfl, hr1, hr2, hk⟩
              have F10_9 := Lib.hid (hr1)
              have F11_9 := Lib.hid (hr2)
              have HB_9 := Lib.hid hk
              go_wp2_with fail
              have HX_9 := Lib.hid (bt HX_8.out HB_9.out)
              refine hK.out _ _ (HS.out _ HX_9.out) (fun hHeld2 => ?_)
              clear hHeld
              have hHeld := hHeld2
              clear hHeld2 hK K hk HB_9 hr1 hr2 HX_8
              try simp only [Act.put, List.getElem_toArray, List.getElem_cons_zero, List.getElem_cons_succ, List.setIfInBounds_toArray, List.set_cons_zero, List.set_cons_succ]
              refine wpAnyH_ready (rs := [35]) (by kernel_rfl) (by simp) ?_
              refine AllReadyH.cons rfl (fun K hK => ?_) AllReadyH.nil
              go_simp
              go_at_call 29
              refine (in_any (n * px + a') (n * py + b') (n * qx + a') (n * qy + b') (n * x0 + a') 1 (n * y0 + b') 1 s10 A10 n10 c10 t10 B10 m10 d10 s11 A11 n11 c11 t11 B11 m11 d11 v9 F10_9.out F11_9.out ⟨⟨by decide, i64_lim (mv_wf HN.out.1 HP0.out.2.1 HN.out.2.1), one_lim⟩, ⟨by decide, i64_lim (mv_wf HN.out.1 HP0.out.2.2 HN.out.2.2), one_lim⟩⟩ ⟨mv_wf HN.out.1 HPI.out.2.1 HN.out.2.1, mv_wf HN.out.1 HPI.out.2.2 HN.out.2.2, mv_wf HN.out.1 HPJ.out.2.1 HN.out.2.1, mv_wf HN.out.1 HPJ.out.2.2 HN.out.2.2⟩).mono ?_
              rw [mv_inV HN.out.1.1, HR.out.2.1]
              rintro e v10 ⟨rfl, hk⟩
              have HB_10 := Lib.hid hk
              go_wp2_with fail
              clear F10_9
              clear F11_9
              have HX_10 := Lib.hid (bt HX_9.out HB_10.out)
              refine hK.out _ _ (HS.out _ HX_10.out) (fun hHeld2 => ?_)
              clear hHeld
              have hHeld := hHeld2
              clear hHeld2 hK K hk HB_10 HX_9
              try simp only [Act.put, List.getElem_toArray, List.getElem_cons_zero, List.getElem_cons_succ, List.setIfInBounds_toArray, List.set_cons_zero, List.set_cons_succ]
              refine wpAnyH_take (i := 36) (v := ?_) rfl (by kernel_rfl) (by kernel_rfl) (by kernel_rfl) (fun _ _ _ h => h) (Or.inl ⟨by kernel_rfl, ?_⟩) (by assumption) ?_
              rotate_left
              · intro w hSw
                (try dsimp only at hSw)
                go_simp
                all_goals (with_reducible rfl)
              try simp only [Act.put, List.getElem_toArray, List.getElem_cons_zero, List.getElem_cons_succ, List.setIfInBounds_toArray, List.set_cons_zero, List.set_cons_succ]
              refine wpAnyH_take (i := 37) (v := ?_) rfl (by kernel_rfl) (by kernel_rfl) (by kernel_rfl) (fun _ _ _ h => h) (Or.inl ⟨by kernel_rfl, ?_⟩) (by assumption) ?_
              rotate_left
              · intro w hSw
                (try dsimp only at hSw)
                go_simp
                all_goals (with_reducible rfl)
              try simp only [Act.put, List.getElem_toArray, List.getElem_cons_zero, List.getElem_cons_succ, List.setIfInBounds_toArray, List.set_cons_zero, List.set_cons_succ]
              refine wpAnyH_done (by kernel_rfl) ?_ _
              clear hHeld
              have HXC := Lib.hid HX_10.out
              obtain ⟨wc, hwc⟩ : ∃ z, z = v10 := ⟨_, rfl⟩
              subst hwc
              go_wp2_with fail
              obtain ⟨v0, hv0⟩ : ∃ z, World.drew wc = z := ⟨_, rfl⟩
              have HD0 := Lib.hid (show Below wc.heap.size wc v0 by rw [← hv0]; exact (Below.refl _ _).drew)
              have HX_0 := Lib.hid (bt HXC.out HD0.out)
              refine wp_region_held_drew (S := (fun w' : World => w'.cell? ⟨G, i * 2, none⟩ = some (.int .i64 px) ∧ w'.cell? ⟨G, i * 2 + 1, none⟩ = some (.int .i64 py) ∧ w'.cell? ⟨G, j * 2, none⟩ = some (.int .i64 qx) ∧ w'.cell? ⟨G, j * 2 + 1, none⟩ = some (.int .i64 qy) ∧ w'.cell? ⟨G, 0, none⟩ = some (.int .i64 x0) ∧ w'.cell? ⟨G, 1, none⟩ = some (.int .i64 y0) ∧ w'.cell? ⟨G, 2, none⟩ = some (.int .i64 x1) ∧ w'.cell? ⟨G, 3, none⟩ = some (.int .i64 y1) ∧ w'.cell? ⟨gm, i * 2, none⟩ = some (.int .i64 (n * px + a')) ∧ w'.cell? ⟨gm, i * 2 + 1, none⟩ = some (.int .i64 (n * py + b')) ∧ w'.cell? ⟨gm, j * 2, none⟩ = some (.int .i64 (n * qx + a')) ∧ w'.cell? ⟨gm, j * 2 + 1, none⟩ = some (.int .i64 (n * qy + b')) ∧ w'.cell? ⟨gm, 0, none⟩ = some (.int .i64 (n * x0 + a')) ∧ w'.cell? ⟨gm, 1, none⟩ = some (.int .i64 (n * y0 + b')) ∧ w'.cell? ⟨gm, 2, none⟩ = some (.int .i64 (n * x1 + a')) ∧ w'.cell? ⟨gm, 3, none⟩ = some (.int .i64 (n * y1 + b')) ∧ w'.cell? ⟨gu, 0, none⟩ = some (.int .i64 px) ∧ w'.cell? ⟨gu, 1, none⟩ = some (.int .i64 py) ∧ w'.cell? ⟨gu, 2, none⟩ = some (.int .i64 qx) ∧ w'.cell? ⟨gu, 3, none⟩ = some (.int .i64 qy) ∧ w'.cell? ⟨gv, 0, none⟩ = some (.int .i64 (n * px + a')) ∧ w'.cell? ⟨gv, 1, none⟩ = some (.int .i64 (n * py + b')) ∧ w'.cell? ⟨gv, 2, none⟩ = some (.int .i64 (n * qx + a')) ∧ w'.cell? ⟨gv, 3, none⟩ = some (.int .i64 (n * qy + b')) ∧ Below wb.heap.size wb w')) (by kernel_rfl) ?_ (fun hHeld => ?_)
              · rw [hv0]
                exact HS.out _ HX_0.out
              rw [hv0] at hHeld ⊢
              clear hv0 HD0
              refine wpAnyH_take (i := 0) (v := ?_) rfl (by kernel_rfl) (by kernel_rfl) (by kernel_rfl) (fun _ _ _ h => h) (Or.inl ⟨by kernel_rfl, ?_⟩) (by assumption) ?_
              rotate_left
              · intro w hSw
                (try dsimp only at hSw)
                go_simp
                all_goals (with_reducible rfl)
              try simp only [Act.put, List.getElem_toArray, List.getElem_cons_zero, List.setIfInBounds_toArray, List.set_cons_zero, List.set_cons_succ]
              refine wpAnyH_take (i := 1) (v := ?_) rfl (by kernel_rfl) (by kernel_rfl) (by kernel_rfl) (fun _ _ _ h => h) (Or.inl ⟨by kernel_rfl, ?_⟩) (by assumption) ?_
              rotate_left
              · intro w hSw
                (try dsimp only at hSw)
                go_simp
                all_goals (with_reducible rfl)
              try simp only [Act.put, List.getElem_toArray, List.getElem_cons_zero, List.getElem_cons_succ, List.setIfInBounds_toArray, List.set_cons_zero, List.set_cons_succ]
              refine wpAnyH_take (i := 2) (v := ?_) rfl (by kernel_rfl) (by kernel_rfl) (by kernel_rfl) (fun _ _ _ h => h) (Or.inl ⟨by kernel_rfl, ?_⟩) (by assumption) ?_
              rotate_left
              · intro w hSw
                (try dsimp only at hSw)
                go_simp
                all_goals (with_reducible rfl)
              try simp only [Act.put, List.getElem_toArray, List.getElem_cons_zero, List.getElem_cons_succ, List.setIfInBounds_toArray, List.set_cons_zero, List.set_cons_succ]
              refine wpAnyH_take (i := 3) (v := ?_) rfl (by kernel_rfl) (by kernel_rfl) (by kernel_rfl) (fun _ _ _ h => h) (Or.inl ⟨by kernel_rfl, ?_⟩) (by assumption) ?_
              rotate_left
              · intro w hSw
                (try dsimp only at hSw)
                go_simp
                all_goals (with_reducible rfl)
              try simp only [Act.put, List.getElem_toArray, List.getElem_cons_zero, List.getElem_cons_succ, List.setIfInBounds_toArray, List.set_cons_zero, List.set_cons_succ]
              refine wpAnyH_take (i := 4) (v := ?_) rfl (by kernel_rfl) (by kernel_rfl) (by kernel_rfl) (fun _ _ _ h => h) (Or.inl ⟨by kernel_rfl, ?_⟩) (by assumption) ?_
              rotate_left
              · intro w hSw
                (try dsimp only at hSw)
                go_simp
                all_goals (with_reducible rfl)
              try simp only [Act.put, List.getElem_toArray, List.getElem_cons_zero, List.getElem_cons_succ, List.setIfInBounds_toArray, List.set_cons_zero, List.set_cons_succ]
              refine wpAnyH_take (i := 5) (v := ?_) rfl (by kernel_rfl) (by kernel_rfl) (by kernel_rfl) (fun _ _ _ h => h) (Or.inl ⟨by kernel_rfl, ?_⟩) (by assumption) ?_
              rotate_left
              · intro w hSw
                (try dsimp only at hSw)
                go_simp
                all_goals (with_reducible rfl)
              try simp only [Act.put, List.getElem_toArray, List.getElem_cons_zero, List.getElem_cons_succ, List.setIfInBounds_toArray, List.set_cons_zero, List.set_cons_succ]
              refine wpAnyH_take (i := 6) (v := ?_) rfl (by kernel_rfl) (by kernel_rfl) (by kernel_rfl) (fun _ _ _ h => h) (Or.inl ⟨by kernel_rfl, ?_⟩) (by assumption) ?_
              rotate_left
              · intro w hSw
                (try dsimp only at hSw)
                go_simp
                all_goals (with_reducible rfl)
              try simp only [Act.put, List.getElem_toArray, List.getElem_cons_zero, List.getElem_cons_succ, List.setIfInBounds_toArray, List.set_cons_zero, List.set_cons_succ]
              refine wpAnyH_take (i := 7) (v := ?_) rfl (by kernel_rfl) (by kernel_rfl) (by kernel_rfl) (fun _ _ _ h => h) (Or.inl ⟨by kernel_rfl, ?_⟩) (by assumption) ?_
              rotate_left
              · intro w hSw
                (try dsimp only at hSw)
                go_simp
                all_goals (with_reducible rfl)
              try simp only [Act.put, List.getElem_toArray, List.getElem_cons_zero, List.getElem_cons_succ, List.setIfInBounds_toArray, List.set_cons_zero, List.set_cons_succ]
              refine wpAnyH_take (i := 9) (v := ?_) rfl (by kernel_rfl) (by kernel_rfl) (by kernel_rfl) (fun _ _ _ h => h) (Or.inl ⟨by kernel_rfl, ?_⟩) (by assumption) ?_
              rotate_left
              · intro w hSw
                (try dsimp only at hSw)
                go_simp
                all_goals (with_reducible rfl)
              try simp only [Act.put, List.getElem_toArray, List.getElem_cons_zero, List.getElem_cons_succ, List.setIfInBounds_toArray, List.set_cons_zero, List.set_cons_succ]
              refine wpAnyH_take (i := 10) (v := ?_) rfl (by kernel_rfl) (by kernel_rfl) (by kernel_rfl) (fun _ _ _ h => h) (Or.inl ⟨by kernel_rfl, ?_⟩) (by assumption) ?_
              rotate_left
              · intro w hSw
                (try dsimp only at hSw)
                go_simp
                all_goals (with_reducible rfl)
              try simp only [Act.put, List.getElem_toArray, List.getElem_cons_zero, List.getElem_cons_succ, List.setIfInBounds_toArray, List.set_cons_zero, List.set_cons_succ]
              refine wpAnyH_take (i := 11) (v := ?_) rfl (by kernel_rfl) (by kernel_rfl) (by kernel_rfl) (fun _ _ _ h => h) (Or.inl ⟨by kernel_rfl, ?_⟩) (by assumption) ?_
              rotate_left
              · intro w hSw
                (try dsimp only at hSw)
                go_simp
                all_goals (with_reducible rfl)
              try simp only [Act.put, List.getElem_toArray, List.getElem_cons_zero, List.getElem_cons_succ, List.setIfInBounds_toArray, List.set_cons_zero, List.set_cons_succ]
              refine wpAnyH_take (i := 12) (v := ?_) rfl (by kernel_rfl) (by kernel_rfl) (by kernel_rfl) (fun _ _ _ h => h) (Or.inl ⟨by kernel_rfl, ?_⟩) (by assumption) ?_
              rotate_left
              · intro w hSw
                (try dsimp only at hSw)
                go_simp
                all_goals (with_reducible rfl)
              try simp only [Act.put, List.getElem_toArray, List.getElem_cons_zero, List.getElem_cons_succ, List.setIfInBounds_toArray, List.set_cons_zero, List.set_cons_succ]
              refine wpAnyH_take (i := 13) (v := ?_) rfl (by kernel_rfl) (by kernel_rfl) (by kernel_rfl) (fun _ _ _ h => h) (Or.inl ⟨by kernel_rfl, ?_⟩) (by assumption) ?_
              rotate_left
              · intro w hSw
                (try dsimp only at hSw)
                go_simp
                all_goals (with_reducible rfl)
              try simp only [Act.put, List.getElem_toArray, List.getElem_cons_zero, List.getElem_cons_succ, List.setIfInBounds_toArray, List.set_cons_zero, List.set_cons_succ]
              refine wpAnyH_take (i := 14) (v := ?_) rfl (by kernel_rfl) (by kernel_rfl) (by kernel_rfl) (fun _ _ _ h => h) (Or.inl ⟨by kernel_rfl, ?_⟩) (by assumption) ?_
              rotate_left
              · intro w hSw
                (try dsimp only at hSw)
                go_simp
                all_goals (with_reducible rfl)
              try simp only [Act.put, List.getElem_toArray, List.getElem_cons_zero, List.getElem_cons_succ, List.setIfInBounds_toArray, List.set_cons_zero, List.set_cons_succ]
              refine wpAnyH_take (i := 15) (v := ?_) rfl (by kernel_rfl) (by kernel_rfl) (by kernel_rfl) (fun _ _ _ h => h) (Or.inl ⟨by kernel_rfl, ?_⟩) (by assumption) ?_
              rotate_left
              · intro w hSw
                (try dsimp only at hSw)
                go_simp
                all_goals (with_reducible rfl)
              try simp only [Act.put, List.getElem_toArray, List.getElem_cons_zero, List.getElem_cons_succ, List.setIfInBounds_toArray, List.set_cons_zero, List.set_cons_succ]
              refine wpAnyH_take (i := 16) (v := ?_) rfl (by kernel_rfl) (by kernel_rfl) (by kernel_rfl) (fun _ _ _ h => h) (Or.inl ⟨by kernel_rfl, ?_⟩) (by assumption) ?_
              rotate_left
              · intro w hSw
                (try dsimp only at hSw)
                go_simp
                all_goals (with_reducible rfl)
              try simp only [Act.put, List.getElem_toArray, List.getElem_cons_zero, List.getElem_cons_succ, List.setIfInBounds_toArray, List.set_cons_zero, List.set_cons_succ]
              refine wpAnyH_ready (rs := [8]) (by kernel_rfl) (by simp) ?_
              refine AllReadyH.cons rfl (fun K hK => ?_) AllReadyH.nil
              go_simp
              go_at_call 32
              refine (meets_any px py qx qy x0 y0 x1 y1 v0).mono ?_
              rw [HR.out.2.2]
              rintro e v1 ⟨rfl, hk⟩
              have HB_1 := Lib.hid hk
              go_wp2_with fail
              have HX_1 := Lib.hid (bt HX_0.out HB_1.out)
              refine hK.out _ _ (HS.out _ HX_1.out) (fun hHeld2 => ?_)
              clear hHeld
              have hHeld := hHeld2
              clear hHeld2 hK K hk HB_1 HX_0
              try simp only [Act.put, List.getElem_toArray, List.getElem_cons_zero, List.getElem_cons_succ, List.setIfInBounds_toArray, List.set_cons_zero, List.set_cons_succ]
              refine wpAnyH_ready (rs := [17]) (by kernel_rfl) (by simp) ?_
              refine AllReadyH.cons rfl (fun K hK => ?_) AllReadyH.nil
              go_simp
              go_at_call 32
              refine (meets_any (n * px + a') (n * py + b') (n * qx + a') (n * qy + b') (n * x0 + a') (n * y0 + b') (n * x1 + a') (n * y1 + b') v1).mono ?_
              rw [mv_mt HN.out.1.1, HR.out.2.2]
              rintro e v2 ⟨rfl, hk⟩
              have HB_2 := Lib.hid hk
              go_wp2_with fail
              have HX_2 := Lib.hid (bt HX_1.out HB_2.out)
              refine hK.out _ _ (HS.out _ HX_2.out) (fun hHeld2 => ?_)
              clear hHeld
              have hHeld := hHeld2
              clear hHeld2 hK K hk HB_2 HX_1
              try simp only [Act.put, List.getElem_toArray, List.getElem_cons_zero, List.getElem_cons_succ, List.setIfInBounds_toArray, List.set_cons_zero, List.set_cons_succ]
              refine wpAnyH_take (i := 18) (v := ?_) rfl (by kernel_rfl) (by kernel_rfl) (by kernel_rfl) (fun _ _ _ h => h) (Or.inl ⟨by kernel_rfl, ?_⟩) (by assumption) ?_
              rotate_left
              · intro w hSw
                (try dsimp only at hSw)
                go_simp
                all_goals (with_reducible rfl)
              try simp only [Act.put, List.getElem_toArray, List.getElem_cons_zero, List.getElem_cons_succ, List.setIfInBounds_toArray, List.set_cons_zero, List.set_cons_succ]
              refine wpAnyH_done (by kernel_rfl) ?_ _
              clear hHeld
              have HBN := Lib.hid (bt HXB.out HX_2.out)
              clear HS HUb HVb
              go_wp2_with fail
              go_roundw
              case rel => exact ⟨j + 1, by omega, by go_num, HBN.out⟩
              case measure => simp [intOf]; omega
            · obtain rfl : j = 4 := by omega
              go_wp2_with fail
              go_roundw
              case rel => exact ⟨i + 1, by omega, by go_num, HBj.out⟩
              case measure => simp [intOf]; omega
        · obtain rfl : i = 4 := by omega
          go_wp2_with fail
          refine (plives_any wr).mono ?_
          rintro e w9 ⟨rfl, hb9⟩
          have HB9 := Lib.hid (bt HBW.out (bt HB.out hb9))
          clear hb9
          go_wp2
          go_ret
          exact ⟨rfl, HB9.out⟩
end Go.Proofs.Ytfmccalkfagafaa
