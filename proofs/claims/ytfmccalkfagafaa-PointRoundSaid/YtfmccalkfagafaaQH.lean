/- The walk of PointRound: the law returns true for every input. -/
import Derived.Test.YtfmccalkfagafaaQF
import Derived.Test.YtfmccalkfagafaaPQ
namespace Go.Proofs.Ytfmccalkfagafaa
open Go.RowKit
attribute [local go_sem ↓] Go.wp_at_zero Go.wp_at_succ
/-- Block b is just these cells, none frozen. -/
def BK (t : TypeId) (w : World) (b : Nat) (cs : Array Value) : Prop := w.heap[b]? = some (.cells cs t (0, 0))
theorem BK.lit (w : World) (t : TypeId) (cs : Array Value) : BK t (w.alloc (.cells cs t)) w.heap.size cs := heap_alloc_new w _
theorem BK.lt {t : TypeId} {w : World} {b : Nat} {cs : Array Value} (h : BK t w b cs) : b < w.heap.size := (Array.getElem?_eq_some_iff.1 h).1
theorem BK.new {t : TypeId} {w w' : World} {b : Nat} {cs : Array Value} (h : BK t w b cs) (hb : Below w.heap.size w w') : BK t w' b cs := (hb.block b h.lt).trans h
/-- Points of the reference, one behind the other. -/
def vp3 : List (Int × Int × Int) → List Value
  | [] => []
  | p :: l => .int .i64 p.1 :: .int .i64 p.2.1 :: .int .i64 p.2.2 :: vp3 l
theorem vp3_get {l : List (Int × Int × Int)} {i : Nat} {p : Int × Int × Int} (h : l[i]? = some p) : (vp3 l)[i * 3]? = some (.int .i64 p.1) ∧ (vp3 l)[i * 3 + 1]? = some (.int .i64 p.2.1) ∧ (vp3 l)[i * 3 + 2]? = some (.int .i64 p.2.2) := by
  induction l generalizing i with
  | nil => simp at h
  | cons q l ih =>
    match i with
    | 0 => simp at h; subst h; exact ⟨rfl, rfl, rfl⟩
    | i + 1 =>
      have := ih (i := i) (by simpa using h)
      rw [show (i + 1) * 3 = i * 3 + 1 + 1 + 1 by omega]
      exact this
theorem BK.get3 {t : TypeId} {w : World} {b : Nat} {l : List (Int × Int × Int)} (h : BK t w b (vp3 l).toArray) {i : Nat} {x y d : Int} (hi : l[i]? = some (x, y, d)) : w.cell? ⟨b, i * 3, none⟩ = some (.int .i64 x) ∧ w.cell? ⟨b, i * 3 + 1, none⟩ = some (.int .i64 y) ∧ w.cell? ⟨b, i * 3 + 2, none⟩ = some (.int .i64 d) := by
  obtain ⟨e1, e2, e3⟩ := vp3_get hi
  have hc := fun o => cell_of_row w b o _ t (0, 0) h
  refine ⟨?_, ?_, ?_⟩
  · rw [hc]; simpa using e1
  · rw [hc]; simpa using e2
  · rw [hc]; simpa using e3
/-- Not too great. -/
def Md (x y d : Int) : Prop := (0 < d ∧ d ≤ 1000) ∧ (-34359738368 ≤ x ∧ x ≤ 34359738368) ∧ (-34359738368 ≤ y ∧ y ≤ 34359738368)
theorem md_of {x y d X Y D : Int} (h : MkR x y d X Y D) (hD : 0 < D) (hm : Md x y d) : Md X Y D := by
  obtain ⟨g, hg, rfl, rfl, rfl, _⟩ := h
  obtain ⟨⟨m1, m2⟩, ⟨m3, m4⟩, m5, m6⟩ := hm
  have h1 := mul_abs_le (X := X) hg
  have h2 := mul_abs_le (X := Y) hg
  have h3 := mul_abs_le (X := D) hg
  exact ⟨⟨hD, by omega⟩, ⟨by omega, by omega⟩, by omega, by omega⟩
theorem md_wf {x y d : Int} (h : Md x y d) : (Lit.int .i64 x).wf = true ∧ (Lit.int .i64 y).wf = true ∧ (Lit.int .i64 d).wf = true := by
  obtain ⟨⟨m1, m2⟩, ⟨m3, m4⟩, m5, m6⟩ := h
  exact ⟨WalkArith.wf_i64 (by omega), WalkArith.wf_i64 (by omega), WalkArith.wf_i64 (by omega)⟩
theorem md_lims {x y d : Int} (h : Md x y d) : (0 < mkQ x d ∧ (mkP x d).natAbs < lim ∧ (mkQ x d).natAbs < lim) ∧ (0 < mkQ y d ∧ (mkP y d).natAbs < lim ∧ (mkQ y d).natAbs < lim) := by
  obtain ⟨w1, w2, w3⟩ := md_wf h
  exact ⟨⟨mkQ_pos, mkPQ_lim (i64_lim w1) (i64_lim w3)⟩, mkQ_pos, mkPQ_lim (i64_lim w2) (i64_lim w3)⟩
theorem sm_int {x : Int} (h : -34359738368 ≤ x ∧ x ≤ 34359738368) : isSm x = true := by unfold isSm; exact decide_eq_true (by omega)
theorem mk_abs {x d : Int} (hd : 0 < d) (h : -34359738368 ≤ x ∧ x ≤ 34359738368) : -34359738368 ≤ mkP x d ∧ mkP x d ≤ 34359738368 := by
  have := (mk_bound (x := x) hd).1
  omega
/-- Whole of the program is that of the reference. -/
theorem pw_rw {x y d X Y D : Int} (h : MkR x y d X Y D) (hm : Md X Y D) : pwX (mkP X D) (mkQ X D) (mkP Y D) (mkQ Y D) = rwX X Y D ∧ pwY (mkP X D) (mkQ X D) (mkP Y D) (mkQ Y D) = rwY X Y D ∧ decide (pwE (mkP X D) (mkQ X D) (mkP Y D) (mkQ Y D) = 0) = rwB X Y D := by
  obtain ⟨⟨d0, _⟩, hx, hy⟩ := hm
  have hl : D ∣ X → D ∣ Y → D = 1 := by obtain ⟨_, _, _, _, _, hl⟩ := h; exact hl
  have sx := sm_int (mk_abs d0 hx)
  have sy := sm_int (mk_abs d0 hy)
  by_cases h1 : D = 1
  · subst h1
    have ex : mkP X 1 = X ∧ mkQ X 1 = 1 := ⟨(mk_one X).1, (mk_one X).2.1⟩
    have ey : mkP Y 1 = Y ∧ mkQ Y 1 = 1 := ⟨(mk_one Y).1, (mk_one Y).2.1⟩
    rw [ex.1] at sx
    rw [ey.1] at sy
    rw [ex.1, ex.2, ey.1, ey.2]
    have va : whV X 1 = X ∧ whC X 1 = 0 := ⟨if_pos ⟨sx, rfl⟩, if_pos ⟨sx, rfl⟩⟩
    have vb : whV Y 1 = Y ∧ whC Y 1 = 0 := ⟨if_pos ⟨sy, rfl⟩, if_pos ⟨sy, rfl⟩⟩
    have e1 : pwA X 1 Y 1 = X := by unfold pwA eiA; rw [if_pos ⟨va.2, vb.2⟩, va.1]
    have e2 : pwB X 1 Y 1 = Y := by unfold pwB eiB; rw [if_pos ⟨va.2, vb.2⟩, vb.1]
    have e3 : eiC whC X 1 Y 1 = 0 := by unfold eiC; rw [if_pos va.2, vb.2]
    have e4 : pwE X 1 Y 1 = vdC X Y := by unfold pwE; rw [e1, e2, e3]; exact if_pos rfl
    unfold pwX pwY rwX rwY rwB
    rw [e4, e1, e2]
    by_cases hv : vdC X Y = 0
    · have hk : rwK X Y 1 := ⟨rfl, hv⟩
      rw [if_pos hv, if_pos hv, if_pos hk, if_pos hk, decide_eq_true hv, decide_eq_true hk]
      exact ⟨rfl, rfl, rfl⟩
    · have hk : ¬ rwK X Y 1 := fun h => hv h.2
      rw [if_neg hv, if_neg hv, if_neg hk, if_neg hk, decide_eq_false hv, decide_eq_false hk]
      exact ⟨rfl, rfl, rfl⟩
  · have hk : ¬ rwK X Y D := fun h => h1 h.1
    have hc : ∃ c, c ≠ 0 ∧ eiC whC (mkP X D) (mkQ X D) (mkP Y D) (mkQ Y D) = c := by
      by_cases q1 : mkQ X D = 1
      · have q2 : mkQ Y D ≠ 1 := fun q2 => h1 (hl (mkQ_one d0 q1) (mkQ_one d0 q2))
        refine ⟨5, by decide, ?_⟩
        unfold eiC
        rw [show whC (mkP X D) (mkQ X D) = 0 from if_pos ⟨sx, q1⟩, if_pos rfl]
        exact if_neg (fun h => q2 h.2)
      · refine ⟨5, by decide, ?_⟩
        unfold eiC
        rw [show whC (mkP X D) (mkQ X D) = 5 from if_neg (fun h => q1 h.2), if_neg (by decide)]
    obtain ⟨c, hc0, hc⟩ := hc
    have e4 : pwE (mkP X D) (mkQ X D) (mkP Y D) (mkQ Y D) = c := by unfold pwE; rw [hc]; exact if_neg hc0
    unfold pwX pwY rwX rwY rwB
    rw [e4, if_neg hc0, if_neg hc0, if_neg hk, if_neg hk, decide_eq_false hc0, decide_eq_false hk]
    exact ⟨rfl, rfl, rfl⟩
theorem ne_cl {x d : Int} (hd : 0 < d) : neV (mkP x d) (mkQ x d) = max (-1073741825) (min 1073741825 (nrV x d)) := by
  unfold neV nrV
  rw [near_mk hd]
/-- Round of the program is that of the reference. -/
theorem rd_rr {X Y D : Int} (hd : 0 < D) : rdX (mkP X D) (mkQ X D) (mkP Y D) (mkQ Y D) = rrX X Y D ∧ rdY (mkP X D) (mkQ X D) (mkP Y D) (mkQ Y D) = rrY X Y D ∧ rdE (mkP X D) (mkQ X D) (mkP Y D) (mkQ Y D) = rrC X Y D := by
  have ez : eiC zC (mkP X D) (mkQ X D) (mkP Y D) (mkQ Y D) = 0 := by unfold eiC zC; rfl
  have ea : rdA (mkP X D) (mkQ X D) (mkP Y D) (mkQ Y D) = max (-1073741825) (min 1073741825 (nrV X D)) := by unfold rdA eiA zC; rw [if_pos ⟨rfl, rfl⟩, ne_cl hd]
  have eb : rdB (mkP X D) (mkQ X D) (mkP Y D) (mkQ Y D) = max (-1073741825) (min 1073741825 (nrV Y D)) := by unfold rdB eiB zC; rw [if_pos ⟨rfl, rfl⟩, ne_cl hd]
  have er : rdE (mkP X D) (mkQ X D) (mkP Y D) (mkQ Y D) = vdC (max (-1073741825) (min 1073741825 (nrV X D))) (max (-1073741825) (min 1073741825 (nrV Y D))) := by
    unfold rdE ogC
    rw [ez, ea, eb, if_pos rfl]
  have ex : rdX (mkP X D) (mkQ X D) (mkP Y D) (mkQ Y D) = if vdC (max (-1073741825) (min 1073741825 (nrV X D))) (max (-1073741825) (min 1073741825 (nrV Y D))) = 0 then max (-1073741825) (min 1073741825 (nrV X D)) else 0 := by
    unfold rdX ogV ogC
    rw [ez, ea, eb]
    rfl
  have ey : rdY (mkP X D) (mkQ X D) (mkP Y D) (mkQ Y D) = if vdC (max (-1073741825) (min 1073741825 (nrV X D))) (max (-1073741825) (min 1073741825 (nrV Y D))) = 0 then max (-1073741825) (min 1073741825 (nrV Y D)) else 0 := by
    unfold rdY ogV ogC
    rw [ez, ea, eb]
    rfl
  rw [er, ex, ey]
  clear er ex ey ez ea eb
  have hv : vdC (max (-1073741825) (min 1073741825 (nrV X D))) (max (-1073741825) (min 1073741825 (nrV Y D))) = vdC (nrV X D) (nrV Y D) := by
    obtain ⟨x, hx⟩ : ∃ x, nrV X D = x := ⟨_, rfl⟩
    obtain ⟨y, hy⟩ : ∃ y, nrV Y D = y := ⟨_, rfl⟩
    rw [hx, hy]
    unfold vdC
    by_cases g : (-1073741824 ≤ x ∧ -1073741824 ≤ y) ∧ x ≤ 1073741824 ∧ y ≤ 1073741824
    · rw [if_pos g, if_pos (by omega)]
    · rw [if_neg g, if_neg (by omega)]
  rw [hv]
  by_cases g : vdC (nrV X D) (nrV Y D) = 0
  · have hk : rrK X Y D := g
    have hr : (-1073741824 ≤ nrV X D ∧ -1073741824 ≤ nrV Y D) ∧ nrV X D ≤ 1073741824 ∧ nrV Y D ≤ 1073741824 := by
      refine Classical.byContradiction fun hn => ?_
      unfold vdC at g
      rw [if_neg hn] at g
      exact absurd g (by decide)
    rw [if_pos g, if_pos g]
    unfold rrX rrY
    rw [if_pos hk, if_pos hk]
    exact ⟨by omega, by omega, rfl⟩
  · have hk : ¬ rrK X Y D := g
    rw [if_neg g, if_neg g]
    unfold rrX rrY
    rw [if_neg hk, if_neg hk]
    exact ⟨rfl, rfl, rfl⟩
theorem get7 {l : List (Int × Int × Int)} {i : Nat} (h : l.length = 7) (hi : i < 7) (hc : ∀ p ∈ l, Md p.1 p.2.1 p.2.2) : ∃ x y d, l[i]? = some (x, y, d) ∧ Md x y d :=
  ⟨_, _, _, List.getElem?_eq_getElem (by omega), hc _ (List.getElem_mem _)⟩
theorem keep5 {a b : World} {p : Addr} {v : Value} (h1 : Below a.heap.size a b) (h : a.cell? p = some v) : b.cell? p = some v := (h1.cell (World.block_lt_of_cell? a _ h)).trans h
set_option maxRecDepth 100000 in
set_option maxHeartbeats 6400000 in
theorem pointRound_walk (a n d : Int) (w : World) (ha : (Lit.int .i64 a).wf = true) (hn : (Lit.int .i64 n).wf = true) (hd : (Lit.int .i64 d).wf = true) :
    Calls Try.prog 4 #[.int .i64 a, .int .i64 n, .int .i64 d] w fun e w' => e = .returned (.bool true) ∧ Below w.heap.size w w' := by
  have HI := Lib.hid (And.intro ha (And.intro hn hd))
  clear ha hn hd
  go_enter Try.func4, Try.ntmps4
  go_wp2_with fail
  refine (some_any a w HI.out.1).mono ?_
  rintro e w1 ⟨X0, Y0, D0, rfl, hs0, hb1⟩
  have HS0 := Lib.hid hs0
  obtain ⟨W, hW⟩ : ∃ z, w1.alloc (.cells #[.int .i64 X0, .int .i64 Y0, .int .i64 D0] 23) = z := ⟨_, rfl⟩
  have HKW := Lib.hid (show Below w.heap.size w W by rw [← hW]; exact bt hb1 ((Below.refl _ _).alloc (Nat.le_refl _) _))
  have HP := Lib.hid (show P3 23 W w1.heap.size (.int .i64 X0) (.int .i64 Y0) (.int .i64 D0) by rw [← hW]; exact P3.lit _ _ _ _ _)
  obtain ⟨g0, hg0⟩ : ∃ g, w1.heap.size = g := ⟨_, rfl⟩
  rw [hg0] at HP
  clear hs0 hb1
  obtain ⟨n1, hn1⟩ : ∃ z, aroundZ n 1048576 = z := ⟨_, rfl⟩
  obtain ⟨n2, hn2⟩ : ∃ z, aroundZ n 32768 = z := ⟨_, rfl⟩
  obtain ⟨n3, hn3⟩ : ∃ z, aroundZ d 99 = z := ⟨_, rfl⟩
  have b1 := aroundZ_in n (n := 1048576) (by decide)
  have b2 := aroundZ_in n (n := 32768) (by decide)
  have b3 := aroundZ_in d (n := 99) (by decide)
  rw [hn1] at b1
  rw [hn2] at b2
  rw [hn3] at b3
  have HN := Lib.hid (And.intro hn1 (And.intro hn2 hn3))
  have HBN := Lib.hid (And.intro b1 (And.intro b2 b3))
  clear hn1 hn2 hn3 b1 b2 b3
  obtain ⟨⟨d0, d1⟩, ⟨x0, x1⟩, y0, y1⟩ := HS0.out.sb
  have eX : IntKind.i64.wrap (-X0) = -X0 := IntWalk.i64_in _ (by omega)
  have eY : IntKind.i64.wrap (-Y0) = -Y0 := IntWalk.i64_in _ (by omega)
  have e2 : IntKind.i64.wrap (-n2) = -n2 := IntWalk.i64_in _ (by have := HBN.out.2.1; omega)
  have e3 : IntKind.i64.wrap (1 + n3) = 1 + n3 := IntWalk.i64_in _ (by have := HBN.out.2.2; omega)
  have HE := Lib.hid (And.intro eX (And.intro eY (And.intro e2 e3)))
  have M0 := Lib.hid (show Md X0 Y0 D0 from ⟨⟨d0, by omega⟩, ⟨by omega, by omega⟩, by omega, by omega⟩)
  have M1 := Lib.hid (show Md (-X0) (-Y0) D0 from ⟨⟨d0, by omega⟩, ⟨by omega, by omega⟩, by omega, by omega⟩)
  have M2 := Lib.hid (show Md n1 (-n2) (1 + n3) from by have := HBN.out; exact ⟨⟨by omega, by omega⟩, ⟨by omega, by omega⟩, by omega, by omega⟩)
  clear d0 d1 x0 x1 y0 y1 eX eY e2 e3
  go_wp2_with fail
  clear hW hg0
  have HS : Hid (∀ w', Below W.heap.size W w' → (fun w' : World => w'.cell? ⟨g0, 0, none⟩ = some (.int .i64 X0) ∧ w'.cell? ⟨g0, 1, none⟩ = some (.int .i64 Y0) ∧ w'.cell? ⟨g0, 2, none⟩ = some (.int .i64 D0) ∧ Below w.heap.size w w') w') := Lib.hid (fun w' hb => ⟨(HP.out.new hb).cells.1, (HP.out.new hb).cells.2.1, (HP.out.new hb).cells.2.2, bt HKW.out hb⟩)
  have HXX := Lib.hid (Below.refl W.heap.size W)
  obtain ⟨v0, hv0⟩ : ∃ z, World.drew W = z := ⟨_, rfl⟩
  have HD0 := Lib.hid (show Below W.heap.size W v0 by rw [← hv0]; exact (Below.refl _ _).drew)
  have HX_0 := Lib.hid (bt HXX.out HD0.out)
  refine wp_region_held_drew (S := (fun w' : World => w'.cell? ⟨g0, 0, none⟩ = some (.int .i64 X0) ∧ w'.cell? ⟨g0, 1, none⟩ = some (.int .i64 Y0) ∧ w'.cell? ⟨g0, 2, none⟩ = some (.int .i64 D0) ∧ Below w.heap.size w w')) (by kernel_rfl) ?_ (fun hHeld => ?_)
  · rw [hv0]
    exact HS.out _ HX_0.out
  rw [hv0] at hHeld ⊢
  clear hv0 HD0
  refine wpAnyH_take (i := 0) (v := ?_) rfl (by kernel_rfl) (by kernel_rfl) (by kernel_rfl) (fun _ _ _ h => h) (Or.inl ⟨by kernel_rfl, ?_⟩) (by assumption) ?_
  rotate_left
  · intro w hSw
    (try dsimp only at hSw)
    go_simp
    all_goals (with_reducible rfl)
  try simp only [Act.put, List.getElem_toArray, List.getElem_cons_zero, List.setIfInBounds_toArray, List.set_cons_zero, List.set_cons_succ]
  refine wpAnyH_take (i := 1) (v := ?_) rfl (by kernel_rfl) (by kernel_rfl) (by kernel_rfl) (fun _ _ _ h => h) (Or.inl ⟨by kernel_rfl, ?_⟩) (by assumption) ?_
  rotate_left
  · intro w hSw
    (try dsimp only at hSw)
    go_simp
    all_goals (with_reducible rfl)
  try simp only [Act.put, List.getElem_toArray, List.getElem_cons_zero, List.getElem_cons_succ, List.setIfInBounds_toArray, List.set_cons_zero, List.set_cons_succ]
  refine wpAnyH_take (i := 2) (v := ?_) rfl (by kernel_rfl) (by kernel_rfl) (by kernel_rfl) (fun _ _ _ h => h) (Or.inl ⟨by kernel_rfl, ?_⟩) (by assumption) ?_
  rotate_left
  · intro w hSw
    (try dsimp only at hSw)
    go_simp
    all_goals (with_reducible rfl)
  try simp only [Act.put, List.getElem_toArray, List.getElem_cons_zero, List.getElem_cons_succ, List.setIfInBounds_toArray, List.set_cons_zero, List.set_cons_succ]
  refine wpAnyH_take (i := 3) (v := ?_) rfl (by kernel_rfl) (by kernel_rfl) (by kernel_rfl) (fun _ _ _ h => h) (Or.inl ⟨by kernel_rfl, ?_⟩) (by assumption) ?_
  rotate_left
  · intro w hSw
    (try dsimp only at hSw)
    go_simp
    all_goals (with_reducible rfl)
  try simp only [Act.put, List.getElem_toArray, List.getElem_cons_zero, List.getElem_cons_succ, List.setIfInBounds_toArray, List.set_cons_zero, List.set_cons_succ]
  refine wpAnyH_take (i := 4) (v := ?_) rfl (by kernel_rfl) (by kernel_rfl) (by kernel_rfl) (fun _ _ _ h => h) (Or.inl ⟨by kernel_rfl, ?_⟩) (by assumption) ?_
  rotate_left
  · intro w hSw
    (try dsimp only at hSw)
    go_simp
    all_goals (with_reducible rfl)
  try simp only [Act.put, List.getElem_toArray, List.getElem_cons_zero, List.getElem_cons_succ, List.setIfInBounds_toArray, List.set_cons_zero, List.set_cons_succ]
  refine wpAnyH_take (i := 5) (v := ?_) rfl (by kernel_rfl) (by kernel_rfl) (by kernel_rfl) (fun _ _ _ h => h) (Or.inl ⟨by kernel_rfl, ?_⟩) (by assumption) ?_
  rotate_left
  · intro w hSw
    (try dsimp only at hSw)
    go_simp
    all_goals (with_reducible rfl)
  try simp only [Act.put, List.getElem_toArray, List.getElem_cons_zero, List.getElem_cons_succ, List.setIfInBounds_toArray, List.set_cons_zero, List.set_cons_succ]
  refine wpAnyH_take (i := 6) (v := ?_) rfl (by kernel_rfl) (by kernel_rfl) (by kernel_rfl) (fun _ _ _ h => h) (Or.inl ⟨by kernel_rfl, ?_⟩) (by assumption) ?_
  rotate_left
  · intro w hSw
    (try dsimp only at hSw)
    go_simp
    all_goals (with_reducible rfl)
  try simp only [Act.put, List.getElem_toArray, List.getElem_cons_zero, List.getElem_cons_succ, List.setIfInBounds_toArray, List.set_cons_zero, List.set_cons_succ]
  refine wpAnyH_take (i := 7) (v := ?_) rfl (by kernel_rfl) (by kernel_rfl) (by kernel_rfl) (fun _ _ _ h => h) (Or.inl ⟨by kernel_rfl, ?_⟩) (by assumption) ?_
  rotate_left
  · intro w hSw
    (try dsimp only at hSw)
    go_simp
    all_goals (with_reducible rfl)
  try simp only [Act.put, List.getElem_toArray, List.getElem_cons_zero, List.getElem_cons_succ, List.setIfInBounds_toArray, List.set_cons_zero, List.set_cons_succ]
  refine wpAnyH_take (i := 8) (v := ?_) rfl (by kernel_rfl) (by kernel_rfl) (by kernel_rfl) (fun _ _ _ h => h) (Or.inl ⟨by kernel_rfl, ?_⟩) (by assumption) ?_
  rotate_left
  · intro w hSw
    (try dsimp only at hSw)
    go_simp
    all_goals (with_reducible rfl)
  try simp only [Act.put, List.getElem_toArray, List.getElem_cons_zero, List.getElem_cons_succ, List.setIfInBounds_toArray, List.set_cons_zero, List.set_cons_succ]
  refine wpAnyH_take (i := 10) (v := ?_) rfl (by kernel_rfl) (by kernel_rfl) (by kernel_rfl) (fun _ _ _ h => h) (Or.inl ⟨by kernel_rfl, ?_⟩) (by assumption) ?_
  rotate_left
  · intro w hSw
    (try dsimp only at hSw)
    go_simp
    all_goals (with_reducible rfl)
  try simp only [Act.put, List.getElem_toArray, List.getElem_cons_zero, List.getElem_cons_succ, List.setIfInBounds_toArray, List.set_cons_zero, List.set_cons_succ]
  refine wpAnyH_take (i := 12) (v := ?_) rfl (by kernel_rfl) (by kernel_rfl) (by kernel_rfl) (fun _ _ _ h => h) (Or.inl ⟨by kernel_rfl, ?_⟩) (by assumption) ?_
  rotate_left
  · intro w hSw
    (try dsimp only at hSw)
    go_simp
    all_goals (with_reducible rfl)
  try simp only [Act.put, List.getElem_toArray, List.getElem_cons_zero, List.getElem_cons_succ, List.setIfInBounds_toArray, List.set_cons_zero, List.set_cons_succ]
  refine wpAnyH_take (i := 15) (v := ?_) rfl (by kernel_rfl) (by kernel_rfl) (by kernel_rfl) (fun _ _ _ h => h) (Or.inl ⟨by kernel_rfl, ?_⟩) (by assumption) ?_
  rotate_left
  · intro w hSw
    (try dsimp only at hSw)
    go_simp
    all_goals (with_reducible rfl)
  try simp only [Act.put, List.getElem_toArray, List.getElem_cons_zero, List.getElem_cons_succ, List.setIfInBounds_toArray, List.set_cons_zero, List.set_cons_succ]
  refine wpAnyH_take (i := 19) (v := ?_) rfl (by kernel_rfl) (by kernel_rfl) (by kernel_rfl) (fun _ _ _ h => h) (Or.inl ⟨by kernel_rfl, ?_⟩) (by assumption) ?_
  rotate_left
  · intro w hSw
    (try dsimp only at hSw)
    go_simp
    all_goals (with_reducible rfl)
  try simp only [Act.put, List.getElem_toArray, List.getElem_cons_zero, List.getElem_cons_succ, List.setIfInBounds_toArray, List.set_cons_zero, List.set_cons_succ]
  refine wpAnyH_take (i := 20) (v := ?_) rfl (by kernel_rfl) (by kernel_rfl) (by kernel_rfl) (fun _ _ _ h => h) (Or.inl ⟨by kernel_rfl, ?_⟩) (by assumption) ?_
  rotate_left
  · intro w hSw
    (try dsimp only at hSw)
    go_simp
    all_goals (with_reducible rfl)
  try simp only [Act.put, List.getElem_toArray, List.getElem_cons_zero, List.getElem_cons_succ, List.setIfInBounds_toArray, List.set_cons_zero, List.set_cons_succ]
  refine wpAnyH_take (i := 21) (v := ?_) rfl (by kernel_rfl) (by kernel_rfl) (by kernel_rfl) (fun _ _ _ h => h) (Or.inl ⟨by kernel_rfl, ?_⟩) (by assumption) ?_
  rotate_left
  · intro w hSw
    (try dsimp only at hSw)
    go_simp
    all_goals (with_reducible rfl)
  try simp only [Act.put, List.getElem_toArray, List.getElem_cons_zero, List.getElem_cons_succ, List.setIfInBounds_toArray, List.set_cons_zero, List.set_cons_succ]
  refine wpAnyH_take (i := 22) (v := ?_) rfl (by kernel_rfl) (by kernel_rfl) (by kernel_rfl) (fun _ _ _ h => h) (Or.inl ⟨by kernel_rfl, ?_⟩) (by assumption) ?_
  rotate_left
  · intro w hSw
    (try dsimp only at hSw)
    go_simp
    all_goals (with_reducible rfl)
  try simp only [Act.put, List.getElem_toArray, List.getElem_cons_zero, List.getElem_cons_succ, List.setIfInBounds_toArray, List.set_cons_zero, List.set_cons_succ]
  refine wpAnyH_ready (rs := [9]) (by kernel_rfl) (by simp) ?_
  refine AllReadyH.cons rfl (fun K hK => ?_) AllReadyH.nil
  go_simp
  go_at_call 15
  rw [HE.out.1, HE.out.2.1]
  refine (make_any (-X0) (-Y0) D0 v0 M1.out.1.1 (by have := M1.out; unfold Md at this; omega) (by have := M1.out; unfold Md at this; omega) (by have := M1.out; unfold Md at this; omega)).mono ?_
  rintro e v1 ⟨X1, Y1, D1, rfl, hmk, hD0, hk⟩
  have N1 := Lib.hid (md_of hmk hD0 M1.out)
  clear hmk hD0
  have HB_1 := Lib.hid hk
  go_wp2_with fail
  have HX_1 := Lib.hid (bt HX_0.out HB_1.out)
  refine hK.out _ _ (HS.out _ HX_1.out) (fun hHeld2 => ?_)
  clear hHeld
  have hHeld := hHeld2
  clear hHeld2 hK K hk HB_1 HX_0
  try simp only [Act.put, List.getElem_toArray, List.getElem_cons_zero, List.getElem_cons_succ, List.setIfInBounds_toArray, List.set_cons_zero, List.set_cons_succ]
  refine wpAnyH_ready (rs := [11]) (by kernel_rfl) (by simp) ?_
  refine AllReadyH.cons rfl (fun K hK => ?_) AllReadyH.nil
  go_simp
  go_at_call 16
  refine (aroundz_any n 1048576 v1 (by decide) (by decide) HI.out.2.1).mono ?_
  rw [HN.out.1]
  rintro e v2 ⟨rfl, hw⟩
  have hk : Below v1.heap.size v1 v2 := by rw [← hw]; exact Below.refl _ _
  clear hw
  have HB_2 := Lib.hid hk
  go_wp2_with fail
  have HX_2 := Lib.hid (bt HX_1.out HB_2.out)
  refine hK.out _ _ (HS.out _ HX_2.out) (fun hHeld2 => ?_)
  clear hHeld
  have hHeld := hHeld2
  clear hHeld2 hK K hk HB_2 HX_1
  try simp only [Act.put, List.getElem_toArray, List.getElem_cons_zero, List.getElem_cons_succ, List.setIfInBounds_toArray, List.set_cons_zero, List.set_cons_succ]
  refine wpAnyH_ready (rs := [13]) (by kernel_rfl) (by simp) ?_
  refine AllReadyH.cons rfl (fun K hK => ?_) AllReadyH.nil
  go_simp
  go_at_call 16
  refine (aroundz_any n 32768 v2 (by decide) (by decide) HI.out.2.1).mono ?_
  rw [HN.out.2.1]
  rintro e v3 ⟨rfl, hw⟩
  have hk : Below v2.heap.size v2 v3 := by rw [← hw]; exact Below.refl _ _
  clear hw
  have HB_3 := Lib.hid hk
  go_wp2_with fail
  have HX_3 := Lib.hid (bt HX_2.out HB_3.out)
  refine hK.out _ _ (HS.out _ HX_3.out) (fun hHeld2 => ?_)
  clear hHeld
  have hHeld := hHeld2
  clear hHeld2 hK K hk HB_3 HX_2
  try simp only [Act.put, List.getElem_toArray, List.getElem_cons_zero, List.getElem_cons_succ, List.setIfInBounds_toArray, List.set_cons_zero, List.set_cons_succ]
  refine wpAnyH_take (i := 14) (v := ?_) rfl (by kernel_rfl) (by kernel_rfl) (by kernel_rfl) (fun _ _ _ h => h) (Or.inl ⟨by kernel_rfl, ?_⟩) (by assumption) ?_
  rotate_left
  · intro w hSw
    (try dsimp only at hSw)
    go_simp
    all_goals (with_reducible rfl)
  try simp only [Act.put, List.getElem_toArray, List.getElem_cons_zero, List.getElem_cons_succ, List.setIfInBounds_toArray, List.set_cons_zero, List.set_cons_succ]
  refine wpAnyH_ready (rs := [16]) (by kernel_rfl) (by simp) ?_
  refine AllReadyH.cons rfl (fun K hK => ?_) AllReadyH.nil
  go_simp
  go_at_call 16
  refine (aroundz_any d 99 v3 (by decide) (by decide) HI.out.2.2).mono ?_
  rw [HN.out.2.2]
  rintro e v4 ⟨rfl, hw⟩
  have hk : Below v3.heap.size v3 v4 := by rw [← hw]; exact Below.refl _ _
  clear hw
  have HB_4 := Lib.hid hk
  go_wp2_with fail
  have HX_4 := Lib.hid (bt HX_3.out HB_4.out)
  refine hK.out _ _ (HS.out _ HX_4.out) (fun hHeld2 => ?_)
  clear hHeld
  have hHeld := hHeld2
  clear hHeld2 hK K hk HB_4 HX_3
  try simp only [Act.put, List.getElem_toArray, List.getElem_cons_zero, List.getElem_cons_succ, List.setIfInBounds_toArray, List.set_cons_zero, List.set_cons_succ]
  refine wpAnyH_take (i := 17) (v := ?_) rfl (by kernel_rfl) (by kernel_rfl) (by kernel_rfl) (fun _ _ _ h => h) (Or.inl ⟨by kernel_rfl, ?_⟩) (by assumption) ?_
  rotate_left
  · intro w hSw
    (try dsimp only at hSw)
    go_simp
    all_goals (with_reducible rfl)
  try simp only [Act.put, List.getElem_toArray, List.getElem_cons_zero, List.getElem_cons_succ, List.setIfInBounds_toArray, List.set_cons_zero, List.set_cons_succ]
  refine wpAnyH_ready (rs := [18]) (by kernel_rfl) (by simp) ?_
  refine AllReadyH.cons rfl (fun K hK => ?_) AllReadyH.nil
  go_simp
  go_at_call 15
  rw [HE.out.2.2.1, HE.out.2.2.2]
  refine (make_any n1 (-n2) (1 + n3) v4 M2.out.1.1 (by have := M2.out; unfold Md at this; omega) (by have := M2.out; unfold Md at this; omega) (by have := M2.out; unfold Md at this; omega)).mono ?_
  rintro e v5 ⟨X2, Y2, D2, rfl, hmk, hD0, hk⟩
  have N2 := Lib.hid (md_of hmk hD0 M2.out)
  clear hmk hD0
  have HB_5 := Lib.hid hk
  go_wp2_with fail
  have HX_5 := Lib.hid (bt HX_4.out HB_5.out)
  refine hK.out _ _ (HS.out _ HX_5.out) (fun hHeld2 => ?_)
  clear hHeld
  have hHeld := hHeld2
  clear hHeld2 hK K hk HB_5 HX_4
  try simp only [Act.put, List.getElem_toArray, List.getElem_cons_zero, List.getElem_cons_succ, List.setIfInBounds_toArray, List.set_cons_zero, List.set_cons_succ]
  refine wpAnyH_ready (rs := [23]) (by kernel_rfl) (by simp) ?_
  refine AllReadyH.cons rfl (fun K hK => ?_) AllReadyH.nil
  go_simp
  have HB_6 := Lib.hid ((Below.refl v5.heap.size v5).alloc (Nat.le_refl _) (.cells #[.int .i64 X0, .int .i64 Y0, .int .i64 D0, .int .i64 X1, .int .i64 Y1, .int .i64 D1, .int .i64 X2, .int .i64 Y2, .int .i64 D2, .int .i64 2147483649, .int .i64 1, .int .i64 2, .int .i64 2147483649, .int .i64 (-2147483649), .int .i64 2, .int .i64 3221225474, .int .i64 0, .int .i64 3, .int .i64 1, .int .i64 3221225473, .int .i64 3] 23))
  have HP_l_6 := Lib.hid (BK.lit v5 23 #[.int .i64 X0, .int .i64 Y0, .int .i64 D0, .int .i64 X1, .int .i64 Y1, .int .i64 D1, .int .i64 X2, .int .i64 Y2, .int .i64 D2, .int .i64 2147483649, .int .i64 1, .int .i64 2, .int .i64 2147483649, .int .i64 (-2147483649), .int .i64 2, .int .i64 3221225474, .int .i64 0, .int .i64 3, .int .i64 1, .int .i64 3221225473, .int .i64 3])
  obtain ⟨v6, hV⟩ : ∃ z, World.alloc v5 (.cells #[.int .i64 X0, .int .i64 Y0, .int .i64 D0, .int .i64 X1, .int .i64 Y1, .int .i64 D1, .int .i64 X2, .int .i64 Y2, .int .i64 D2, .int .i64 2147483649, .int .i64 1, .int .i64 2, .int .i64 2147483649, .int .i64 (-2147483649), .int .i64 2, .int .i64 3221225474, .int .i64 0, .int .i64 3, .int .i64 1, .int .i64 3221225473, .int .i64 3] 23) = z := ⟨_, rfl⟩
  obtain ⟨gl, hg⟩ : ∃ z, v5.heap.size = z := ⟨_, rfl⟩
  rw [hV] at HB_6 HP_l_6  ⊢
  rw [hg] at HP_l_6  ⊢
  have HG_l := Lib.hid (show W.heap.size ≤ gl by rw [← hg]; exact HX_5.out.size)
  have HX_6 := Lib.hid (bt HX_5.out HB_6.out)
  refine hK.out _ _ (HS.out _ HX_6.out) (fun hHeld2 => ?_)
  clear hHeld
  have hHeld := hHeld2
  clear hHeld2 hK K hV hg HB_6 HX_5
  try simp only [Act.put, List.getElem_toArray, List.getElem_cons_zero, List.getElem_cons_succ, List.setIfInBounds_toArray, List.set_cons_zero, List.set_cons_succ]
  refine wpAnyH_take (i := 24) (v := ?_) rfl (by kernel_rfl) (by kernel_rfl) (by kernel_rfl) (fun _ _ _ h => h) (Or.inl ⟨by kernel_rfl, ?_⟩) (by assumption) ?_
  rotate_left
  · intro w hSw
    (try dsimp only at hSw)
    go_simp
    all_goals (with_reducible rfl)
  try simp only [Act.put, List.getElem_toArray, List.getElem_cons_zero, List.getElem_cons_succ, List.setIfInBounds_toArray, List.set_cons_zero, List.set_cons_succ]
  refine wpAnyH_done (by kernel_rfl) ?_ _
  clear hHeld
  obtain ⟨WL, hWL⟩ : ∃ z, z = v6 := ⟨_, rfl⟩
  subst hWL
  obtain ⟨L, hL⟩ : ∃ l, [(X0, Y0, D0), (X1, Y1, D1), (X2, Y2, D2), (2147483649, 1, 2), (2147483649, (-2147483649), 2), (3221225474, 0, 3), (1, 3221225473, 3)] = l := ⟨_, rfl⟩
  have HL := Lib.hid (show BK 23 WL gl (vp3 L).toArray by rw [← hL]; exact HP_l_6.out)
  have HLc := Lib.hid (show L.length = 7 ∧ ∀ p ∈ L, Md p.1 p.2.1 p.2.2 by
    rw [← hL]
    refine ⟨rfl, fun p hp => ?_⟩
    simp only [List.mem_cons, List.not_mem_nil, or_false] at hp
    rcases hp with rfl | rfl | rfl | rfl | rfl | rfl | rfl
    · exact M0.out
    · exact N1.out
    · exact N2.out
    all_goals (unfold Md; decide))
  have HBL := Lib.hid (bt HKW.out HX_6.out)
  clear hL HS M0 M1 M2 N1 N2 HN HBN HE HP HKW HXX HI
  go_wp2_with fail
  go_loopw [9] (fun tv wr => ∃ i : Nat, i ≤ 7 ∧ tv = .int .i64 (i : Int) ∧ Below WL.heap.size WL wr) (fun tv _ => 7 - (intOf tv).toNat)
  case atStart => exact ⟨0, by omega, rfl, Below.refl _ _⟩
  case round =>
    obtain ⟨i, hi, rfl, hbel⟩ := hrel
    have HB := Lib.hid hbel
    clear hbel
    by_cases hlt : i < 7
    · have h0i : (0 : Int) ≤ (i : Int) := by omega
      have hi7 : (i : Int) < 7 := by omega
      obtain ⟨x, y, dd, hp, hm⟩ := get7 HLc.out.1 hlt HLc.out.2
      have HG := Lib.hid (fun (w' : World) (hb : Below WL.heap.size WL w') => (HL.out.new hb).get3 hp)
      have HM := Lib.hid hm
      clear hp hm
      go_upto_region 6 with fail
      go_cut [10] (fun tp wx => ∃ (q : Nat) (X Y D : Int), tp = .pointer (some ⟨q, 0, none⟩) ∧ P3 23 wx q (.int .i64 X) (.int .i64 Y) (.int .i64 D) ∧ Hid (MkR x y dd X Y D ∧ 0 < D) ∧ Below WL.heap.size WL wx)
      case first =>
        obtain ⟨v0, hv0⟩ : ∃ z, World.drew wr = z := ⟨_, rfl⟩
        have HD0 := Lib.hid (show Below wr.heap.size wr v0 by rw [← hv0]; exact (Below.refl _ _).drew)
        have HX_0 := Lib.hid (bt HB.out HD0.out)
        refine wp_region_held_drew (S := (fun w' : World => w'.cell? ⟨gl, i * 3, none⟩ = some (.int .i64 x) ∧ w'.cell? ⟨gl, i * 3 + 1, none⟩ = some (.int .i64 y) ∧ w'.cell? ⟨gl, i * 3 + 2, none⟩ = some (.int .i64 dd) ∧ Below WL.heap.size WL w')) (by kernel_rfl) ?_ (fun hHeld => ?_)
        · rw [hv0]
          exact ⟨(HG.out _ HX_0.out).1, (HG.out _ HX_0.out).2.1, (HG.out _ HX_0.out).2.2, HX_0.out⟩
        rw [hv0] at hHeld ⊢
        clear hv0 HD0
        refine wpAnyH_take (i := 0) (v := ?_) rfl (by kernel_rfl) (by kernel_rfl) (by kernel_rfl) (fun _ _ _ h => h) (Or.inl ⟨by kernel_rfl, ?_⟩) (by assumption) ?_
        rotate_left
        · intro w hSw
          (try dsimp only at hSw)
          go_simp
          all_goals (with_reducible rfl)
        try simp only [Act.put, List.getElem_toArray, List.getElem_cons_zero, List.setIfInBounds_toArray, List.set_cons_zero, List.set_cons_succ]
        refine wpAnyH_take (i := 1) (v := ?_) rfl (by kernel_rfl) (by kernel_rfl) (by kernel_rfl) (fun _ _ _ h => h) (Or.inl ⟨by kernel_rfl, ?_⟩) (by assumption) ?_
        rotate_left
        · intro w hSw
          (try dsimp only at hSw)
          go_simp
          all_goals (with_reducible rfl)
        try simp only [Act.put, List.getElem_toArray, List.getElem_cons_zero, List.getElem_cons_succ, List.setIfInBounds_toArray, List.set_cons_zero, List.set_cons_succ]
        refine wpAnyH_take (i := 2) (v := ?_) rfl (by kernel_rfl) (by kernel_rfl) (by kernel_rfl) (fun _ _ _ h => h) (Or.inl ⟨by kernel_rfl, ?_⟩) (by assumption) ?_
        rotate_left
        · intro w hSw
          (try dsimp only at hSw)
          go_simp
          all_goals (with_reducible rfl)
        try simp only [Act.put, List.getElem_toArray, List.getElem_cons_zero, List.getElem_cons_succ, List.setIfInBounds_toArray, List.set_cons_zero, List.set_cons_succ]
        refine wpAnyH_take (i := 3) (v := ?_) rfl (by kernel_rfl) (by kernel_rfl) (by kernel_rfl) (fun _ _ _ h => h) (Or.inl ⟨by kernel_rfl, ?_⟩) (by assumption) ?_
        rotate_left
        · intro w hSw
          (try dsimp only at hSw)
          go_simp
          all_goals (with_reducible rfl)
        try simp only [Act.put, List.getElem_toArray, List.getElem_cons_zero, List.getElem_cons_succ, List.setIfInBounds_toArray, List.set_cons_zero, List.set_cons_succ]
        refine wpAnyH_take (i := 4) (v := ?_) rfl (by kernel_rfl) (by kernel_rfl) (by kernel_rfl) (fun _ _ _ h => h) (Or.inl ⟨by kernel_rfl, ?_⟩) (by assumption) ?_
        rotate_left
        · intro w hSw
          (try dsimp only at hSw)
          go_simp
          all_goals (with_reducible rfl)
        try simp only [Act.put, List.getElem_toArray, List.getElem_cons_zero, List.getElem_cons_succ, List.setIfInBounds_toArray, List.set_cons_zero, List.set_cons_succ]
        refine wpAnyH_take (i := 5) (v := ?_) rfl (by kernel_rfl) (by kernel_rfl) (by kernel_rfl) (fun _ _ _ h => h) (Or.inl ⟨by kernel_rfl, ?_⟩) (by assumption) ?_
        rotate_left
        · intro w hSw
          (try dsimp only at hSw)
          go_simp
          all_goals (with_reducible rfl)
        try simp only [Act.put, List.getElem_toArray, List.getElem_cons_zero, List.getElem_cons_succ, List.setIfInBounds_toArray, List.set_cons_zero, List.set_cons_succ]
        refine wpAnyH_take (i := 6) (v := ?_) rfl (by kernel_rfl) (by kernel_rfl) (by kernel_rfl) (fun _ _ _ h => h) (Or.inl ⟨by kernel_rfl, ?_⟩) (by assumption) ?_
        rotate_left
        · intro w hSw
          (try dsimp only at hSw)
          go_simp
          all_goals (with_reducible rfl)
        try simp only [Act.put, List.getElem_toArray, List.getElem_cons_zero, List.getElem_cons_succ, List.setIfInBounds_toArray, List.set_cons_zero, List.set_cons_succ]
        refine wpAnyH_take (i := 7) (v := ?_) rfl (by kernel_rfl) (by kernel_rfl) (by kernel_rfl) (fun _ _ _ h => h) (Or.inl ⟨by kernel_rfl, ?_⟩) (by assumption) ?_
        rotate_left
        · intro w hSw
          (try dsimp only at hSw)
          go_simp
          all_goals (with_reducible rfl)
        try simp only [Act.put, List.getElem_toArray, List.getElem_cons_zero, List.getElem_cons_succ, List.setIfInBounds_toArray, List.set_cons_zero, List.set_cons_succ]
        refine wpAnyH_take (i := 8) (v := ?_) rfl (by kernel_rfl) (by kernel_rfl) (by kernel_rfl) (fun _ _ _ h => h) (Or.inl ⟨by kernel_rfl, ?_⟩) (by assumption) ?_
        rotate_left
        · intro w hSw
          (try dsimp only at hSw)
          go_simp
          all_goals (with_reducible rfl)
        try simp only [Act.put, List.getElem_toArray, List.getElem_cons_zero, List.getElem_cons_succ, List.setIfInBounds_toArray, List.set_cons_zero, List.set_cons_succ]
        refine wpAnyH_take (i := 9) (v := ?_) rfl (by kernel_rfl) (by kernel_rfl) (by kernel_rfl) (fun _ _ _ h => h) (Or.inl ⟨by kernel_rfl, ?_⟩) (by assumption) ?_
        rotate_left
        · intro w hSw
          (try dsimp only at hSw)
          go_simp
          all_goals (with_reducible rfl)
        try simp only [Act.put, List.getElem_toArray, List.getElem_cons_zero, List.getElem_cons_succ, List.setIfInBounds_toArray, List.set_cons_zero, List.set_cons_succ]
        refine wpAnyH_take (i := 10) (v := ?_) rfl (by kernel_rfl) (by kernel_rfl) (by kernel_rfl) (fun _ _ _ h => h) (Or.inl ⟨by kernel_rfl, ?_⟩) (by assumption) ?_
        rotate_left
        · intro w hSw
          (try dsimp only at hSw)
          go_simp
          all_goals (with_reducible rfl)
        try simp only [Act.put, List.getElem_toArray, List.getElem_cons_zero, List.getElem_cons_succ, List.setIfInBounds_toArray, List.set_cons_zero, List.set_cons_succ]
        refine wpAnyH_take (i := 11) (v := ?_) rfl (by kernel_rfl) (by kernel_rfl) (by kernel_rfl) (fun _ _ _ h => h) (Or.inl ⟨by kernel_rfl, ?_⟩) (by assumption) ?_
        rotate_left
        · intro w hSw
          (try dsimp only at hSw)
          go_simp
          all_goals (with_reducible rfl)
        try simp only [Act.put, List.getElem_toArray, List.getElem_cons_zero, List.getElem_cons_succ, List.setIfInBounds_toArray, List.set_cons_zero, List.set_cons_succ]
        refine wpAnyH_take (i := 12) (v := ?_) rfl (by kernel_rfl) (by kernel_rfl) (by kernel_rfl) (fun _ _ _ h => h) (Or.inl ⟨by kernel_rfl, ?_⟩) (by assumption) ?_
        rotate_left
        · intro w hSw
          (try dsimp only at hSw)
          go_simp
          all_goals (with_reducible rfl)
        try simp only [Act.put, List.getElem_toArray, List.getElem_cons_zero, List.getElem_cons_succ, List.setIfInBounds_toArray, List.set_cons_zero, List.set_cons_succ]
        refine wpAnyH_take (i := 13) (v := ?_) rfl (by kernel_rfl) (by kernel_rfl) (by kernel_rfl) (fun _ _ _ h => h) (Or.inl ⟨by kernel_rfl, ?_⟩) (by assumption) ?_
        rotate_left
        · intro w hSw
          (try dsimp only at hSw)
          go_simp
          all_goals (with_reducible rfl)
        try simp only [Act.put, List.getElem_toArray, List.getElem_cons_zero, List.getElem_cons_succ, List.setIfInBounds_toArray, List.set_cons_zero, List.set_cons_succ]
        refine wpAnyH_take (i := 14) (v := ?_) rfl (by kernel_rfl) (by kernel_rfl) (by kernel_rfl) (fun _ _ _ h => h) (Or.inl ⟨by kernel_rfl, ?_⟩) (by assumption) ?_
        rotate_left
        · intro w hSw
          (try dsimp only at hSw)
          go_simp
          all_goals (with_reducible rfl)
        try simp only [Act.put, List.getElem_toArray, List.getElem_cons_zero, List.getElem_cons_succ, List.setIfInBounds_toArray, List.set_cons_zero, List.set_cons_succ]
        refine wpAnyH_ready (rs := [15, 16]) (by kernel_rfl) (by simp) ?_
        refine AllReadyH.cons rfl (fun K hK => ?_) ?_
        go_simp
        go_at_call 15
        refine (make_any x y dd v0 HM.out.1.1 (by have := HM.out; unfold Md at this; omega) (by have := HM.out; unfold Md at this; omega) (by have := HM.out; unfold Md at this; omega)).mono ?_
        rintro e v1 ⟨X, Y, D, rfl, hmk, hD0, hk⟩
        have HMK := Lib.hid (And.intro hmk hD0)
        clear hmk hD0
        have HB_1 := Lib.hid hk
        go_wp2_with fail
        have HX_1 := Lib.hid (bt HX_0.out HB_1.out)
        refine hK.out _ _ (⟨(HG.out _ HX_1.out).1, (HG.out _ HX_1.out).2.1, (HG.out _ HX_1.out).2.2, HX_1.out⟩) (fun hHeld2 => ?_)
        clear hHeld
        have hHeld := hHeld2
        clear hHeld2 hK K hk HB_1 HX_0
        try simp only [Act.put, List.getElem_toArray, List.getElem_cons_zero, List.getElem_cons_succ, List.setIfInBounds_toArray, List.set_cons_zero, List.set_cons_succ]
        refine wpAnyH_ready (rs := [16]) (by kernel_rfl) (by simp) ?_
        refine AllReadyH.cons rfl (fun K hK => ?_) AllReadyH.nil
        go_simp
        have HB_2 := Lib.hid ((Below.refl v1.heap.size v1).alloc (Nat.le_refl _) (.cells #[.int .i64 0, .int .i64 0, .int .i64 0] 23))
        have HP_q_2 := Lib.hid (P3.lit v1 23 (.int .i64 0) (.int .i64 0) (.int .i64 0))
        obtain ⟨v2, hV⟩ : ∃ z, World.alloc v1 (.cells #[.int .i64 0, .int .i64 0, .int .i64 0] 23) = z := ⟨_, rfl⟩
        obtain ⟨gq, hg⟩ : ∃ z, v1.heap.size = z := ⟨_, rfl⟩
        rw [hV] at HB_2 HP_q_2  ⊢
        rw [hg] at HP_q_2  ⊢
        have HG_q := Lib.hid (show WL.heap.size ≤ gq by rw [← hg]; exact HX_1.out.size)
        have HX_2 := Lib.hid (bt HX_1.out HB_2.out)
        refine hK.out _ _ (⟨(HG.out _ HX_2.out).1, (HG.out _ HX_2.out).2.1, (HG.out _ HX_2.out).2.2, HX_2.out⟩) (fun hHeld2 => ?_)
        clear hHeld
        have hHeld := hHeld2
        clear hHeld2 hK K hV hg HB_2 HX_1
        try simp only [Act.put, List.getElem_toArray, List.getElem_cons_zero, List.getElem_cons_succ, List.setIfInBounds_toArray, List.set_cons_zero, List.set_cons_succ]
        refine wpAnyH_ready (rs := [17]) (by kernel_rfl) (by simp) ?_
        refine AllReadyH.cons rfl (fun K hK => ?_) AllReadyH.nil
        obtain ⟨z0, z1, z2⟩ := HP_q_2.out.cells
        have y0 := HP_q_2.out.frozen 0
        have y1 := HP_q_2.out.frozen 1
        have y2 := HP_q_2.out.frozen 2
        have z9 := HP_q_2.out.lt
        go_simp
        obtain ⟨v3, hV⟩ : ∃ z, World.setCell (World.setCell (World.setCell v2 ⟨gq, 0, none⟩ (.int .i64 X)) ⟨gq, 1, none⟩ (.int .i64 Y)) ⟨gq, 2, none⟩ (.int .i64 D) = z := ⟨_, rfl⟩
        rw [hV]
        have HX_3 := Lib.hid (show Below WL.heap.size WL v3 by rw [← hV]; exact below_box3 HX_2.out (HG_q.out) _ _ _)
        have HP_q_3 := Lib.hid (show P3 23 v3 gq (.int .i64 X) (.int .i64 Y) (.int .i64 D) by rw [← hV]; exact HP_q_2.out.all (.int .i64 X) (.int .i64 Y) (.int .i64 D))
        refine hK.out _ _ (⟨(HG.out _ HX_3.out).1, (HG.out _ HX_3.out).2.1, (HG.out _ HX_3.out).2.2, HX_3.out⟩) (fun hHeld2 => ?_)
        clear hHeld
        have hHeld := hHeld2
        clear hHeld2 hK K hV z9 z0 z1 z2 y0 y1 y2 HX_2 HP_q_2
        try simp only [Act.put, List.getElem_toArray, List.getElem_cons_zero, List.getElem_cons_succ, List.setIfInBounds_toArray, List.set_cons_zero, List.set_cons_succ]
        refine wpAnyH_done (by kernel_rfl) ?_ _
        clear hHeld
        go_wp2_with fail
        go_meet
        exact ⟨gq, X, Y, D, rfl, HP_q_3.out, HMK, HX_3.out⟩
        refine AllReadyH.cons rfl (fun K hK => ?_) AllReadyH.nil
        go_simp
        have HB_4 := Lib.hid ((Below.refl v0.heap.size v0).alloc (Nat.le_refl _) (.cells #[.int .i64 0, .int .i64 0, .int .i64 0] 23))
        have HP_q_4 := Lib.hid (P3.lit v0 23 (.int .i64 0) (.int .i64 0) (.int .i64 0))
        obtain ⟨v4, hV⟩ : ∃ z, World.alloc v0 (.cells #[.int .i64 0, .int .i64 0, .int .i64 0] 23) = z := ⟨_, rfl⟩
        obtain ⟨gq, hg⟩ : ∃ z, v0.heap.size = z := ⟨_, rfl⟩
        rw [hV] at HB_4 HP_q_4  ⊢
        rw [hg] at HP_q_4  ⊢
        have HG_q := Lib.hid (show WL.heap.size ≤ gq by rw [← hg]; exact HX_0.out.size)
        have HX_4 := Lib.hid (bt HX_0.out HB_4.out)
        refine hK.out _ _ (⟨(HG.out _ HX_4.out).1, (HG.out _ HX_4.out).2.1, (HG.out _ HX_4.out).2.2, HX_4.out⟩) (fun hHeld2 => ?_)
        clear hHeld
        have hHeld := hHeld2
        clear hHeld2 hK K hV hg HB_4 HX_0
        try simp only [Act.put, List.getElem_toArray, List.getElem_cons_zero, List.getElem_cons_succ, List.setIfInBounds_toArray, List.set_cons_zero, List.set_cons_succ]
        refine wpAnyH_ready (rs := [15]) (by kernel_rfl) (by simp) ?_
        refine AllReadyH.cons rfl (fun K hK => ?_) AllReadyH.nil
        go_simp
        go_at_call 15
        refine (make_any x y dd v4 HM.out.1.1 (by have := HM.out; unfold Md at this; omega) (by have := HM.out; unfold Md at this; omega) (by have := HM.out; unfold Md at this; omega)).mono ?_
        rintro e v5 ⟨X, Y, D, rfl, hmk, hD0, hk⟩
        have HMK := Lib.hid (And.intro hmk hD0)
        clear hmk hD0
        have HB_5 := Lib.hid hk
        go_wp2_with fail
        have HX_5 := Lib.hid (bt HX_4.out HB_5.out)
        have HP_q_5 := Lib.hid (HP_q_4.out.new HB_5.out)
        refine hK.out _ _ (⟨(HG.out _ HX_5.out).1, (HG.out _ HX_5.out).2.1, (HG.out _ HX_5.out).2.2, HX_5.out⟩) (fun hHeld2 => ?_)
        clear hHeld
        have hHeld := hHeld2
        clear hHeld2 hK K hk HB_5 HX_4 HP_q_4
        try simp only [Act.put, List.getElem_toArray, List.getElem_cons_zero, List.getElem_cons_succ, List.setIfInBounds_toArray, List.set_cons_zero, List.set_cons_succ]
        refine wpAnyH_ready (rs := [17]) (by kernel_rfl) (by simp) ?_
        refine AllReadyH.cons rfl (fun K hK => ?_) AllReadyH.nil
        obtain ⟨z0, z1, z2⟩ := HP_q_5.out.cells
        have y0 := HP_q_5.out.frozen 0
        have y1 := HP_q_5.out.frozen 1
        have y2 := HP_q_5.out.frozen 2
        have z9 := HP_q_5.out.lt
        go_simp
        obtain ⟨v6, hV⟩ : ∃ z, World.setCell (World.setCell (World.setCell v5 ⟨gq, 0, none⟩ (.int .i64 X)) ⟨gq, 1, none⟩ (.int .i64 Y)) ⟨gq, 2, none⟩ (.int .i64 D) = z := ⟨_, rfl⟩
        rw [hV]
        have HX_6 := Lib.hid (show Below WL.heap.size WL v6 by rw [← hV]; exact below_box3 HX_5.out (HG_q.out) _ _ _)
        have HP_q_6 := Lib.hid (show P3 23 v6 gq (.int .i64 X) (.int .i64 Y) (.int .i64 D) by rw [← hV]; exact HP_q_5.out.all (.int .i64 X) (.int .i64 Y) (.int .i64 D))
        refine hK.out _ _ (⟨(HG.out _ HX_6.out).1, (HG.out _ HX_6.out).2.1, (HG.out _ HX_6.out).2.2, HX_6.out⟩) (fun hHeld2 => ?_)
        clear hHeld
        have hHeld := hHeld2
        clear hHeld2 hK K hV z9 z0 z1 z2 y0 y1 y2 HX_5 HP_q_5
        try simp only [Act.put, List.getElem_toArray, List.getElem_cons_zero, List.getElem_cons_succ, List.setIfInBounds_toArray, List.set_cons_zero, List.set_cons_succ]
        refine wpAnyH_done (by kernel_rfl) ?_ _
        clear hHeld
        go_wp2_with fail
        go_meet
        exact ⟨gq, X, Y, D, rfl, HP_q_6.out, HMK, HX_6.out⟩
      case rest =>
        obtain ⟨q, X, Y, D, rfl, hq, hmk, hbx⟩ := hcut
        obtain ⟨wx, rfl⟩ := nm_world hbx
        have HQ := Lib.hid hq
        have HBX := Lib.hid hbx
        have HMD := Lib.hid (md_of hmk.out.1 hmk.out.2 HM.out)
        have HPW := Lib.hid (pw_rw hmk.out.1 HMD.out)
        have HRD := Lib.hid (rd_rr (X := X) (Y := Y) hmk.out.2)
        clear hq hbx HG HM hmk HB
        obtain ⟨qa, hqa⟩ : ∃ z, rwX X Y D = z := ⟨_, rfl⟩
        obtain ⟨qb, hqb⟩ : ∃ z, rwY X Y D = z := ⟨_, rfl⟩
        obtain ⟨qc, hqc⟩ : ∃ z, rwB X Y D = z := ⟨_, rfl⟩
        obtain ⟨qd, hqd⟩ : ∃ z, rrX X Y D = z := ⟨_, rfl⟩
        obtain ⟨qe, hqe⟩ : ∃ z, rrY X Y D = z := ⟨_, rfl⟩
        obtain ⟨qf, hqf⟩ : ∃ z, rrC X Y D = z := ⟨_, rfl⟩
        have HV := Lib.hid (And.intro hqa (And.intro hqb (And.intro hqc (And.intro hqd (And.intro hqe hqf)))))
        rw [hqa, hqb, hqc] at HPW
        rw [hqd, hqe, hqf] at HRD
        clear hqa hqb hqc hqd hqe hqf
        obtain ⟨q0, q1, q2⟩ := HQ.out.cells
        go_wp2_with fail
        refine (real_any X Y D wx (md_wf HMD.out).1 (md_wf HMD.out).2.1 (md_wf HMD.out).2.2).mono ?_
        rintro e u1 ⟨s0, A0, n0, c0, t0, B0, m0, d0, s1, A1, n1, c1, t1, B1, m1, d1, rfl, h0, h1, hb⟩
        have H0 := Lib.hid h0
        have H1 := Lib.hid h1
        have HN := Lib.hid hb
        clear h0 h1 hb q0 q1 q2
        have HQ_u1 := Lib.hid (HQ.out.new HN.out)
        have HB_u1 := Lib.hid (bt HBX.out HN.out)
        clear HQ HBX HN
        go_wp2_with fail
        refine (pwhole_any (mkP X D) (mkQ X D) (mkP Y D) (mkQ Y D) s0 A0 n0 c0 t0 B0 m0 d0 s1 A1 n1 c1 t1 B1 m1 d1 u1 H0.out H1.out (md_lims HMD.out)).mono ?_
        rw [HPW.out.1, HPW.out.2.1, HPW.out.2.2]
        clear H0 H1
        rintro e u2 ⟨rfl, hb⟩
        have HN1 := Lib.hid hb
        clear hb
        obtain ⟨v2, hv2⟩ : ∃ z, u2.alloc (.cells #[.int .i64 qa, .int .i64 qb] 44) = z := ⟨_, rfl⟩
        have HN2 := Lib.hid (show Below u2.heap.size u2 v2 by rw [← hv2]; exact (Below.refl _ _).alloc (Nat.le_refl _) _)
        have HNb := Lib.hid (show P2 44 v2 u2.heap.size (.int .i64 qa) (.int .i64 qb) by rw [← hv2]; exact P2.lit _ _ _ _)
        obtain ⟨k2, hk2⟩ : ∃ g, u2.heap.size = g := ⟨_, rfl⟩
        rw [hk2] at HNb
        have HN := Lib.hid (bt HN1.out HN2.out)
        clear HN1 HN2
        have HQ_v2 := Lib.hid (HQ_u1.out.new HN.out)
        have HB_v2 := Lib.hid (bt HB_u1.out HN.out)
        clear HQ_u1 HB_u1 HN
        have HA := HNb
        clear HNb
        obtain ⟨q0, q1, q2⟩ := HQ_v2.out.cells
        go_wp2_with fail
        clear hv2 hk2
        refine (rwhole_any X Y D v2).mono ?_
        rw [HV.out.1, HV.out.2.1, HV.out.2.2.1]
        rintro e u3 ⟨rfl, hb⟩
        have HN1 := Lib.hid hb
        clear hb q0 q1 q2
        obtain ⟨v3, hv3⟩ : ∃ z, u3.alloc (.cells #[.int .i64 qa, .int .i64 qb] 44) = z := ⟨_, rfl⟩
        have HN2 := Lib.hid (show Below u3.heap.size u3 v3 by rw [← hv3]; exact (Below.refl _ _).alloc (Nat.le_refl _) _)
        have HNb := Lib.hid (show P2 44 v3 u3.heap.size (.int .i64 qa) (.int .i64 qb) by rw [← hv3]; exact P2.lit _ _ _ _)
        obtain ⟨k3, hk3⟩ : ∃ g, u3.heap.size = g := ⟨_, rfl⟩
        rw [hk3] at HNb
        have HN := Lib.hid (bt HN1.out HN2.out)
        clear HN1 HN2
        have HQ_v3 := Lib.hid (HQ_v2.out.new HN.out)
        have HA_v3 := Lib.hid (HA.out.new HN.out)
        have HB_v3 := Lib.hid (bt HB_v2.out HN.out)
        clear HQ_v2 HA HB_v2 HN
        have HK := HNb
        clear HNb
        obtain ⟨q0, q1, q2⟩ := HQ_v3.out.cells
        go_wp2_with fail
        clear hv3 hk3
        refine (real_any X Y D v3 (md_wf HMD.out).1 (md_wf HMD.out).2.1 (md_wf HMD.out).2.2).mono ?_
        rintro e u4 ⟨s0, A0, n0, c0, t0, B0, m0, d0, s1, A1, n1, c1, t1, B1, m1, d1, rfl, h0, h1, hb⟩
        have H0 := Lib.hid h0
        have H1 := Lib.hid h1
        have HN := Lib.hid hb
        clear h0 h1 hb q0 q1 q2
        have HQ_u4 := Lib.hid (HQ_v3.out.new HN.out)
        have HA_u4 := Lib.hid (HA_v3.out.new HN.out)
        have HK_u4 := Lib.hid (HK.out.new HN.out)
        have HB_u4 := Lib.hid (bt HB_v3.out HN.out)
        clear HQ_v3 HA_v3 HK HB_v3 HN
        go_wp2_with fail
        refine (pround_any (mkP X D) (mkQ X D) (mkP Y D) (mkQ Y D) s0 A0 n0 c0 t0 B0 m0 d0 s1 A1 n1 c1 t1 B1 m1 d1 u4 H0.out H1.out (md_lims HMD.out)).mono ?_
        rw [HRD.out.1, HRD.out.2.1, HRD.out.2.2]
        clear H0 H1
        rintro e u5 ⟨rfl, hb⟩
        have HN1 := Lib.hid hb
        clear hb
        obtain ⟨v5, hv5⟩ : ∃ z, u5.alloc (.cells #[.int .i64 qd, .int .i64 qe] 44) = z := ⟨_, rfl⟩
        have HN2 := Lib.hid (show Below u5.heap.size u5 v5 by rw [← hv5]; exact (Below.refl _ _).alloc (Nat.le_refl _) _)
        have HNb := Lib.hid (show P2 44 v5 u5.heap.size (.int .i64 qd) (.int .i64 qe) by rw [← hv5]; exact P2.lit _ _ _ _)
        obtain ⟨k5, hk5⟩ : ∃ g, u5.heap.size = g := ⟨_, rfl⟩
        rw [hk5] at HNb
        have HN := Lib.hid (bt HN1.out HN2.out)
        clear HN1 HN2
        have HQ_v5 := Lib.hid (HQ_u4.out.new HN.out)
        have HA_v5 := Lib.hid (HA_u4.out.new HN.out)
        have HK_v5 := Lib.hid (HK_u4.out.new HN.out)
        have HB_v5 := Lib.hid (bt HB_u4.out HN.out)
        clear HQ_u4 HA_u4 HK_u4 HB_u4 HN
        have HC := HNb
        clear HNb
        obtain ⟨q0, q1, q2⟩ := HQ_v5.out.cells
        go_wp2_with fail
        clear hv5 hk5
        refine (rround_any X Y D v5 (by have := HMD.out; unfold Md at this; omega)).mono ?_
        rw [HV.out.2.2.2.1, HV.out.2.2.2.2.1, HV.out.2.2.2.2.2]
        rintro e u6 ⟨rfl, hb⟩
        have HN1 := Lib.hid hb
        clear hb q0 q1 q2
        obtain ⟨v6, hv6⟩ : ∃ z, u6.alloc (.cells #[.int .i64 qd, .int .i64 qe] 44) = z := ⟨_, rfl⟩
        have HN2 := Lib.hid (show Below u6.heap.size u6 v6 by rw [← hv6]; exact (Below.refl _ _).alloc (Nat.le_refl _) _)
        have HNb := Lib.hid (show P2 44 v6 u6.heap.size (.int .i64 qd) (.int .i64 qe) by rw [← hv6]; exact P2.lit _ _ _ _)
        obtain ⟨k6, hk6⟩ : ∃ g, u6.heap.size = g := ⟨_, rfl⟩
        rw [hk6] at HNb
        have HN := Lib.hid (bt HN1.out HN2.out)
        clear HN1 HN2
        have HQ_v6 := Lib.hid (HQ_v5.out.new HN.out)
        have HA_v6 := Lib.hid (HA_v5.out.new HN.out)
        have HK_v6 := Lib.hid (HK_v5.out.new HN.out)
        have HC_v6 := Lib.hid (HC.out.new HN.out)
        have HB_v6 := Lib.hid (bt HB_v5.out HN.out)
        clear HQ_v5 HA_v5 HK_v5 HC HB_v5 HN
        have HE := HNb
        clear HNb
        obtain ⟨p0, p1⟩ := HA_v6.out.cells
        obtain ⟨r0, r1⟩ := HK_v6.out.cells
        obtain ⟨s0, s1⟩ := HC_v6.out.cells
        obtain ⟨t0, t1⟩ := HE.out.cells
        go_wp2_with fail
        go_roundw
        case rel => exact ⟨i + 1, by omega, by go_num, HB_v6.out⟩
        case measure => simp [intOf]; omega
    · obtain rfl : i = 7 := by omega
      go_wp2_with fail
      refine (plives_any wr).mono ?_
      rintro e w9 ⟨rfl, hb9⟩
      have HB9 := Lib.hid (bt HBL.out (bt HB.out hb9))
      clear hb9
      go_wp2
      go_ret
      exact ⟨rfl, HB9.out⟩
end Go.Proofs.Ytfmccalkfagafaa
