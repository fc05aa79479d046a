/- The walk of PointBoxes: the law returns true for every input. -/
import Derived.Test.YtfmccalkfagafaaZQK
import Derived.Test.YtfmccalkfagafaaZQB
namespace Go.Proofs.Ytfmccalkfagafaa
open Go.RowKit
attribute [local go_sem ↓] Go.wp_at_zero Go.wp_at_succ
/-- Boxes, one behind the other. -/
def vp4 : List (Int × Int × Int × Int) → List Value
  | [] => []
  | p :: l => .int .i64 p.1 :: .int .i64 p.2.1 :: .int .i64 p.2.2.1 :: .int .i64 p.2.2.2 :: vp4 l
theorem vp4_get {l : List (Int × Int × Int × Int)} {i : Nat} {p : Int × Int × Int × Int} (h : l[i]? = some p) : (vp4 l)[i * 4]? = some (.int .i64 p.1) ∧ (vp4 l)[i * 4 + 1]? = some (.int .i64 p.2.1) ∧ (vp4 l)[i * 4 + 2]? = some (.int .i64 p.2.2.1) ∧ (vp4 l)[i * 4 + 3]? = some (.int .i64 p.2.2.2) := by
  induction l generalizing i with
  | nil => simp at h
  | cons q l ih =>
    match i with
    | 0 => simp at h; subst h; exact ⟨rfl, rfl, rfl, rfl⟩
    | i + 1 =>
      have := ih (i := i) (by simpa using h)
      rw [show (i + 1) * 4 = i * 4 + 1 + 1 + 1 + 1 by omega]
      exact this
theorem BK.get4 {t : TypeId} {w : World} {b : Nat} {l : List (Int × Int × Int × Int)} (h : BK t w b (vp4 l).toArray) {i : Nat} {a b' x y : Int} (hi : l[i]? = some (a, b', x, y)) : w.cell? ⟨b, i * 4, none⟩ = some (.int .i64 a) ∧ w.cell? ⟨b, i * 4 + 1, none⟩ = some (.int .i64 b') ∧ w.cell? ⟨b, i * 4 + 2, none⟩ = some (.int .i64 x) ∧ w.cell? ⟨b, i * 4 + 3, none⟩ = some (.int .i64 y) := by
  obtain ⟨e1, e2, e3, e4⟩ := vp4_get hi
  have hc := fun o => cell_of_row w b o _ t (0, 0) h
  refine ⟨?_, ?_, ?_, ?_⟩
  · rw [hc]; simpa using e1
  · rw [hc]; simpa using e2
  · rw [hc]; simpa using e3
  · rw [hc]; simpa using e4
def Co4 (a b x y : Int) : Prop := Co a ∧ Co b ∧ Co x ∧ Co y
theorem co_wf {x : Int} (h : Co x) : (Lit.int .i64 x).wf = true := WalkArith.wf_i64 (by have := h.1; have := h.2; omega)
theorem co4_wf {a b x y : Int} (h : Co4 a b x y) : (Lit.int .i64 a).wf = true ∧ (Lit.int .i64 b).wf = true ∧ (Lit.int .i64 x).wf = true ∧ (Lit.int .i64 y).wf = true := ⟨co_wf h.1, co_wf h.2.1, co_wf h.2.2.1, co_wf h.2.2.2⟩
theorem getb {l : List (Int × Int × Int × Int)} {i : Nat} (h : l.length = 4) (hi : i < 4) (hc : ∀ p ∈ l, Co4 p.1 p.2.1 p.2.2.1 p.2.2.2) : ∃ a b x y, l[i]? = some (a, b, x, y) ∧ Co4 a b x y :=
  ⟨_, _, _, _, List.getElem?_eq_getElem (by omega), hc _ (List.getElem_mem _)⟩
theorem co_max {a b : Int} (ha : Co a) (hb : Co b) : Co (max a b) := by unfold Co at *; omega
theorem ite_max (a b : Int) : (if a < b then b else a) = max a b := by split <;> omega
/-- In of the program is that of the reference. -/
theorem in_rin {a b x y X Y D : Int} (hD : 0 < D) : inV a b x y (mkP X D) (mkQ X D) (mkP Y D) (mkQ Y D) = rinV a b x y X Y D := by
  obtain ⟨hx, ex⟩ := mk_low X D hD
  obtain ⟨hy, ey⟩ := mk_low Y D hD
  have l1 := @le_low a 1 (mkP X D) (mkQ X D) a 1 X D (by decide) hx.1 (by decide) hD rfl ex
  have l2 := @le_low b 1 (mkP Y D) (mkQ Y D) b 1 Y D (by decide) hy.1 (by decide) hD rfl ey
  have l3 := @le_low (mkP X D) (mkQ X D) x 1 X D x 1 hx.1 (by decide) hD (by decide) ex rfl
  have l4 := @le_low (mkP Y D) (mkQ Y D) y 1 Y D y 1 hy.1 (by decide) hD (by decide) ey rfl
  simp only [Int.mul_one] at l1 l2 l3 l4
  unfold inV ngV rinV
  simp only [Int.mul_one]
  rw [← Bool.decide_and]
  refine decide_eq_decide.2 ?_
  rw [l1, l2, l3, l4]
  exact ⟨fun h => ⟨⟨⟨h.1.1, h.2.1⟩, h.1.2⟩, h.2.2⟩, fun h => ⟨⟨h.1.1.1, h.1.2⟩, h.1.1.2, h.2⟩⟩
theorem in_rin1 {a b x y X Y : Int} : inV a b x y X 1 Y 1 = rinV a b x y X Y 1 := by
  have := @in_rin a b x y X Y 1 (by decide)
  rwa [(mk_one X).1, (mk_one X).2.1, (mk_one Y).1, (mk_one Y).2.1] at this
theorem mt_symm (a b x y a' b' x' y' : Int) : mtV a' b' x' y' a b x y = mtV a b x y a' b' x' y' := by
  unfold mtV
  exact decide_eq_decide.2 (by omega)
/-- Valid boxes meet exactly if the corner of the greater Min lies in both. -/
theorem mt_corner {a b x y a' b' x' y' : Int} (h : vbC a b x y = 0) (h' : vbC a' b' x' y' = 0) : mtV a b x y a' b' x' y' = (inV a b x y (max a a') 1 (max b b') 1 && inV a' b' x' y' (max a a') 1 (max b b') 1) := by
  have k : ∀ a b x y, vbC a b x y = 0 → a ≤ x ∧ b ≤ y := by
    intro a b x y h
    refine Classical.byContradiction fun hn => ?_
    unfold vbC at h
    rw [if_neg (fun g => hn g.2.2)] at h
    exact absurd h (by decide)
  have h1 := k _ _ _ _ h
  have h2 := k _ _ _ _ h'
  unfold mtV inV ngV
  simp only [Int.mul_one]
  rw [← Bool.decide_and, ← Bool.decide_and, ← Bool.decide_and]
  exact decide_eq_decide.2 (by omega)
theorem vb_cases (a b x y : Int) : vbC a b x y = 0 ∨ vbC a b x y = 5 := by unfold vbC; split <;> simp
set_option maxRecDepth 100000 in
set_option maxHeartbeats 6400000 in
theorem pointBoxes_walk (a b c d n : Int) (w : World) (ha : (Lit.int .i64 a).wf = true) (hb : (Lit.int .i64 b).wf = true) (hc : (Lit.int .i64 c).wf = true) (hd : (Lit.int .i64 d).wf = true) (hn : (Lit.int .i64 n).wf = true) :
    Calls Try.prog 6 #[.int .i64 a, .int .i64 b, .int .i64 c, .int .i64 d, .int .i64 n] w fun e w' => e = .returned (.bool true) ∧ Below w.heap.size w w' := by
  have HI := Lib.hid (And.intro ha (And.intro hb (And.intro hc (And.intro hd hn))))
  clear ha hb hc hd hn
  go_enter Try.func6, Try.ntmps6
  go_wp2_with fail
  refine (grid_any a w HI.out.1).mono ?_
  rintro e w0 ⟨x0, y0, rfl, cx0, cy0, hb0⟩
  have HC0 := Lib.hid (And.intro cx0 cy0)
  have HB0 := Lib.hid (hb0)
  clear cx0 cy0 hb0
  go_wp2_with fail
  refine (grid_any b w0 HI.out.2.1).mono ?_
  rintro e w1 ⟨x1, y1, rfl, cx1, cy1, hb1⟩
  have HC1 := Lib.hid (And.intro cx1 cy1)
  have HB1 := Lib.hid (bt HB0.out hb1)
  clear cx1 cy1 hb1
  obtain ⟨v1, hv1⟩ : ∃ z, w1.alloc (.cells #[.int .i64 x0, .int .i64 y0, .int .i64 x1, .int .i64 y1] 64) = z := ⟨_, rfl⟩
  have HNa := Lib.hid (show Below w1.heap.size w1 v1 by rw [← hv1]; exact (Below.refl _ _).alloc (Nat.le_refl _) _)
  have HU := Lib.hid (show P4 64 v1 w1.heap.size (.int .i64 x0) (.int .i64 y0) (.int .i64 x1) (.int .i64 y1) by rw [← hv1]; exact P4.lit _ _ _ _ _ _)
  obtain ⟨gu, hgu⟩ : ∃ g, w1.heap.size = g := ⟨_, rfl⟩
  rw [hgu] at HU
  have HB1b := Lib.hid (bt HB1.out HNa.out)
  go_wp2_with fail
  refine (grid_any c v1 HI.out.2.2.1).mono ?_
  rintro e w2 ⟨x2, y2, rfl, cx2, cy2, hb2⟩
  have HC2 := Lib.hid (And.intro cx2 cy2)
  have HE2 := Lib.hid hb2
  have HB2 := Lib.hid (bt HB1b.out hb2)
  clear cx2 cy2 hb2
  clear hv1 hgu
  go_wp2_with fail
  refine (grid_any d w2 HI.out.2.2.2.1).mono ?_
  rintro e w3 ⟨x3, y3, rfl, cx3, cy3, hb3⟩
  have HC3 := Lib.hid (And.intro cx3 cy3)
  have HD13a := Lib.hid (bt HE2.out hb3)
  have HB3 := Lib.hid (bt HB2.out hb3)
  clear cx3 cy3 hb3
  obtain ⟨v3, hv3⟩ : ∃ z, w3.alloc (.cells #[.int .i64 x2, .int .i64 y2, .int .i64 x3, .int .i64 y3] 64) = z := ⟨_, rfl⟩
  have HNc := Lib.hid (show Below w3.heap.size w3 v3 by rw [← hv3]; exact (Below.refl _ _).alloc (Nat.le_refl _) _)
  have HV := Lib.hid (show P4 64 v3 w3.heap.size (.int .i64 x2) (.int .i64 y2) (.int .i64 x3) (.int .i64 y3) by rw [← hv3]; exact P4.lit _ _ _ _ _ _)
  obtain ⟨gv, hgv⟩ : ∃ g, w3.heap.size = g := ⟨_, rfl⟩
  rw [hgv] at HV
  have HB3b := Lib.hid (bt HB3.out HNc.out)
  have HD13 := Lib.hid (bt HD13a.out HNc.out)
  go_wp2_with fail
  clear hv3 hgv
  refine (some_any n v3 HI.out.2.2.2.2).mono ?_
  rintro e w4 ⟨X, Y, D, rfl, hs, hb4⟩
  have HS0 := Lib.hid hs
  obtain ⟨v4, hv4⟩ : ∃ z, w4.alloc (.cells #[.int .i64 X, .int .i64 Y, .int .i64 D] 23) = z := ⟨_, rfl⟩
  have HN4 := Lib.hid (show Below v3.heap.size v3 v4 by rw [← hv4]; exact bt hb4 ((Below.refl _ _).alloc (Nat.le_refl _) _))
  have HP := Lib.hid (show P3 23 v4 w4.heap.size (.int .i64 X) (.int .i64 Y) (.int .i64 D) by rw [← hv4]; exact P3.lit _ _ _ _ _)
  obtain ⟨gp, hgp⟩ : ∃ g, w4.heap.size = g := ⟨_, rfl⟩
  rw [hgp] at HP
  have HU4 := Lib.hid (HU.out.new (Below.trans (show Below v1.heap.size v1 v3 from HD13.out) (HN4.out.mono HD13.out.size)))
  have HV4 := Lib.hid (HV.out.new HN4.out)
  have HB4 := Lib.hid (bt HB3b.out HN4.out)
  clear hs hb4
  obtain ⟨WL, hWL⟩ : ∃ z, v4.alloc (.cells #[.int .i64 x0, .int .i64 y0, .int .i64 x1, .int .i64 y1, .int .i64 x2, .int .i64 y2, .int .i64 x3, .int .i64 y3, .int .i64 x0, .int .i64 y0, .int .i64 x3, .int .i64 y3, .int .i64 0, .int .i64 0, .int .i64 0, .int .i64 0] 64) = z := ⟨_, rfl⟩
  obtain ⟨L, hL⟩ : ∃ l, [(x0, y0, x1, y1), (x2, y2, x3, y3), (x0, y0, x3, y3), (0, 0, 0, 0)] = l := ⟨_, rfl⟩
  obtain ⟨G, hG⟩ : ∃ g, v4.heap.size = g := ⟨_, rfl⟩
  have HL := Lib.hid (show BK 64 WL G (vp4 L).toArray by rw [← hWL, ← hG, ← hL]; exact BK.lit _ _ _)
  have HNL := Lib.hid (show Below v4.heap.size v4 WL by rw [← hWL]; exact (Below.refl _ _).alloc (Nat.le_refl _) _)
  have HLc := Lib.hid (show L.length = 4 ∧ ∀ p ∈ L, Co4 p.1 p.2.1 p.2.2.1 p.2.2.2 by
    rw [← hL]
    refine ⟨rfl, fun p hp => ?_⟩
    simp only [List.mem_cons, List.not_mem_nil, or_false] at hp
    rcases hp with rfl | rfl | rfl | rfl
    · exact ⟨HC0.out.1, HC0.out.2, HC1.out.1, HC1.out.2⟩
    · exact ⟨HC2.out.1, HC2.out.2, HC3.out.1, HC3.out.2⟩
    · exact ⟨HC0.out.1, HC0.out.2, HC3.out.1, HC3.out.2⟩
    · unfold Co4 Co; decide)
  have HPL := Lib.hid (HP.out.new HNL.out)
  have HVL := Lib.hid (HV4.out.new HNL.out)
  have HBL := Lib.hid (bt HB4.out HNL.out)
  have HC2L := Lib.hid HC2.out
  have HSS := Lib.hid HS0.out.sb
  obtain ⟨u0, u1, u2, u3⟩ := HU4.out.cells
  obtain ⟨q0, q1, q2, q3⟩ := HV4.out.cells
  go_wp2_with fail
  clear hv4 hgp hWL hL hG u0 u1 u2 u3 q0 q1 q2 q3 HU HV HU4 HV4 HP HB4 HNL HC0 HC1 HC2 HC3 HI HS0 HN4 HB3b
  go_loopw [15] (fun tv wr => ∃ i : Nat, i ≤ 4 ∧ tv = .int .i64 (i : Int) ∧ Below WL.heap.size WL wr) (fun tv _ => 4 - (intOf tv).toNat)
  case atStart => exact ⟨0, by omega, rfl, Below.refl _ _⟩
  case round =>
    obtain ⟨i, hi, rfl, hbel⟩ := hrel
    have HB := Lib.hid hbel
    clear hbel
    by_cases hlt : i < 4
    · have h0i : (0 : Int) ≤ (i : Int) := by omega
      have hi4 : (i : Int) < 4 := by omega
      obtain ⟨a, b, x, y, hp, hm⟩ := getb HLc.out.1 hlt HLc.out.2
      have HGi := Lib.hid (fun (w' : World) (hb : Below WL.heap.size WL w') => (HL.out.new hb).get4 hp)
      have HCi := Lib.hid hm
      clear hp hm
      obtain ⟨r1, hr1⟩ : ∃ z, rinV a b x y X Y D = z := ⟨_, rfl⟩
      obtain ⟨r2, hr2⟩ : ∃ z, rinV a b x y x2 y2 1 = z := ⟨_, rfl⟩
      have HR := Lib.hid (And.intro hr1 hr2)
      clear hr1 hr2
      go_upto_region 8 with fail
      obtain ⟨v0, hv0⟩ : ∃ z, World.drew wr = z := ⟨_, rfl⟩
      have HD0 := Lib.hid (show Below wr.heap.size wr v0 by rw [← hv0]; exact (Below.refl _ _).drew)
      have HX_0 := Lib.hid (bt HB.out HD0.out)
      refine wp_region_held_drew (S := (fun w' : World => w'.cell? ⟨G, i * 4, none⟩ = some (.int .i64 a) ∧ w'.cell? ⟨G, i * 4 + 1, none⟩ = some (.int .i64 b) ∧ w'.cell? ⟨G, i * 4 + 2, none⟩ = some (.int .i64 x) ∧ w'.cell? ⟨G, i * 4 + 3, none⟩ = some (.int .i64 y) ∧ w'.cell? ⟨gp, 0, none⟩ = some (.int .i64 X) ∧ w'.cell? ⟨gp, 1, none⟩ = some (.int .i64 Y) ∧ w'.cell? ⟨gp, 2, none⟩ = some (.int .i64 D) ∧ w'.cell? ⟨gv, 0, none⟩ = some (.int .i64 x2) ∧ w'.cell? ⟨gv, 1, none⟩ = some (.int .i64 y2) ∧ Below WL.heap.size WL w')) (by kernel_rfl) ?_ (fun hHeld => ?_)
      · rw [hv0]
        exact ⟨(HGi.out _ HX_0.out).1, (HGi.out _ HX_0.out).2.1, (HGi.out _ HX_0.out).2.2.1, (HGi.out _ HX_0.out).2.2.2, (HPL.out.new HX_0.out).cells.1, (HPL.out.new HX_0.out).cells.2.1, (HPL.out.new HX_0.out).cells.2.2, (HVL.out.new HX_0.out).cells.1, (HVL.out.new HX_0.out).cells.2.1, HX_0.out⟩
      rw [hv0] at hHeld ⊢
      clear hv0 HD0
      refine wpAnyH_take (i := 0) (v := ?_) rfl (by kernel_rfl) (by kernel_rfl) (by kernel_rfl) (fun _ _ _ h => h) (Or.inl ⟨by kernel_rfl, ?_⟩) (by assumption) ?_
      rotate_left
      · intro w hSw
        (try dsimp only at hSw)
        go_simp
        all_goals (with_reducible rfl)
      try simp only [Act.put, List.getElem_toArray, List.getElem_cons_zero, List.setIfInBounds_toArray, List.set_cons_zero, List.set_cons_succ]
      refine wpAnyH_take (i := 1) (v := ?_) rfl (by kernel_rfl) (by kernel_rfl) (by kernel_rfl) (fun _ _ _ h => h) (Or.inl ⟨by kernel_rfl, ?_⟩) (by assumption) ?_
      rotate_left
      · intro w hSw
        (try dsimp only at hSw)
        go_simp
        all_goals (with_reducible rfl)
      try simp only [Act.put, List.getElem_toArray, List.getElem_cons_zero, List.getElem_cons_succ, List.setIfInBounds_toArray, List.set_cons_zero, List.set_cons_succ]
      refine wpAnyH_take (i := 2) (v := ?_) rfl (by kernel_rfl) (by kernel_rfl) (by kernel_rfl) (fun _ _ _ h => h) (Or.inl ⟨by kernel_rfl, ?_⟩) (by assumption) ?_
      rotate_left
      · intro w hSw
        (try dsimp only at hSw)
        go_simp
        all_goals (with_reducible rfl)
      try simp only [Act.put, List.getElem_toArray, List.getElem_cons_zero, List.getElem_cons_succ, List.setIfInBounds_toArray, List.set_cons_zero, List.set_cons_succ]
      refine wpAnyH_take (i := 3) (v := ?_) rfl (by kernel_rfl) (by kernel_rfl) (by kernel_rfl) (fun _ _ _ h => h) (Or.inl ⟨by kernel_rfl, ?_⟩) (by assumption) ?_
      rotate_left
      · intro w hSw
        (try dsimp only at hSw)
        go_simp
        all_goals (with_reducible rfl)
      try simp only [Act.put, List.getElem_toArray, List.getElem_cons_zero, List.getElem_cons_succ, List.setIfInBounds_toArray, List.set_cons_zero, List.set_cons_succ]
      refine wpAnyH_take (i := 4) (v := ?_) rfl (by kernel_rfl) (by kernel_rfl) (by kernel_rfl) (fun _ _ _ h => h) (Or.inl ⟨by kernel_rfl, ?_⟩) (by assumption) ?_
      rotate_left
      · intro w hSw
        (try dsimp only at hSw)
        go_simp
        all_goals (with_reducible rfl)
      try simp only [Act.put, List.getElem_toArray, List.getElem_cons_zero, List.getElem_cons_succ, List.setIfInBounds_toArray, List.set_cons_zero, List.set_cons_succ]
      refine wpAnyH_take (i := 7) (v := ?_) rfl (by kernel_rfl) (by kernel_rfl) (by kernel_rfl) (fun _ _ _ h => h) (Or.inl ⟨by kernel_rfl, ?_⟩) (by assumption) ?_
      rotate_left
      · intro w hSw
        (try dsimp only at hSw)
        go_simp
        all_goals (with_reducible rfl)
      try simp only [Act.put, List.getElem_toArray, List.getElem_cons_zero, List.getElem_cons_succ, List.setIfInBounds_toArray, List.set_cons_zero, List.set_cons_succ]
      refine wpAnyH_take (i := 8) (v := ?_) rfl (by kernel_rfl) (by kernel_rfl) (by kernel_rfl) (fun _ _ _ h => h) (Or.inl ⟨by kernel_rfl, ?_⟩) (by assumption) ?_
      rotate_left
      · intro w hSw
        (try dsimp only at hSw)
        go_simp
        all_goals (with_reducible rfl)
      try simp only [Act.put, List.getElem_toArray, List.getElem_cons_zero, List.getElem_cons_succ, List.setIfInBounds_toArray, List.set_cons_zero, List.set_cons_succ]
      refine wpAnyH_take (i := 9) (v := ?_) rfl (by kernel_rfl) (by kernel_rfl) (by kernel_rfl) (fun _ _ _ h => h) (Or.inl ⟨by kernel_rfl, ?_⟩) (by assumption) ?_
      rotate_left
      · intro w hSw
        (try dsimp only at hSw)
        go_simp
        all_goals (with_reducible rfl)
      try simp only [Act.put, List.getElem_toArray, List.getElem_cons_zero, List.getElem_cons_succ, List.setIfInBounds_toArray, List.set_cons_zero, List.set_cons_succ]
      refine wpAnyH_take (i := 10) (v := ?_) rfl (by kernel_rfl) (by kernel_rfl) (by kernel_rfl) (fun _ _ _ h => h) (Or.inl ⟨by kernel_rfl, ?_⟩) (by assumption) ?_
      rotate_left
      · intro w hSw
        (try dsimp only at hSw)
        go_simp
        all_goals (with_reducible rfl)
      try simp only [Act.put, List.getElem_toArray, List.getElem_cons_zero, List.getElem_cons_succ, List.setIfInBounds_toArray, List.set_cons_zero, List.set_cons_succ]
      refine wpAnyH_take (i := 11) (v := ?_) rfl (by kernel_rfl) (by kernel_rfl) (by kernel_rfl) (fun _ _ _ h => h) (Or.inl ⟨by kernel_rfl, ?_⟩) (by assumption) ?_
      rotate_left
      · intro w hSw
        (try dsimp only at hSw)
        go_simp
        all_goals (with_reducible rfl)
      try simp only [Act.put, List.getElem_toArray, List.getElem_cons_zero, List.getElem_cons_succ, List.setIfInBounds_toArray, List.set_cons_zero, List.set_cons_succ]
      refine wpAnyH_ready (rs := [5]) (by kernel_rfl) (by simp) ?_
      refine AllReadyH.cons rfl (fun K hK => ?_) AllReadyH.nil
      go_simp
      go_at_call 10
      refine (real_any X Y D v0 (WalkArith.wf_i64 (by have := HSS.out; unfold Sb at this; omega)) (WalkArith.wf_i64 (by have := HSS.out; unfold Sb at this; omega)) (WalkArith.wf_i64 (by have := HSS.out; unfold Sb at this; omega))).mono ?_
      rintro e v1 ⟨s0, A0, n0, c0, t0, B0, m0, d0, s1, A1, n1, c1, t1, B1, m1, d1, rfl, hr1, hr2, hk⟩
      have F0_1 := Lib.hid (hr1)
      have F1_1 := Lib.hid (hr2)
      have HB_1 := Lib.hid hk
      go_wp2_with fail
      have HX_1 := Lib.hid (bt HX_0.out HB_1.out)
      refine hK.out _ _ (⟨(HGi.out _ HX_1.out).1, (HGi.out _ HX_1.out).2.1, (HGi.out _ HX_1.out).2.2.1, (HGi.out _ HX_1.out).2.2.2, (HPL.out.new HX_1.out).cells.1, (HPL.out.new HX_1.out).cells.2.1, (HPL.out.new HX_1.out).cells.2.2, (HVL.out.new HX_1.out).cells.1, (HVL.out.new HX_1.out).cells.2.1, HX_1.out⟩) (fun hHeld2 => ?_)
      clear hHeld
      have hHeld := hHeld2
      clear hHeld2 hK K hk HB_1 hr1 hr2 HX_0
      try simp only [Act.put, List.getElem_toArray, List.getElem_cons_zero, List.getElem_cons_succ, List.setIfInBounds_toArray, List.set_cons_zero, List.set_cons_succ]
      refine wpAnyH_ready (rs := [6]) (by kernel_rfl) (by simp) ?_
      refine AllReadyH.cons rfl (fun K hK => ?_) AllReadyH.nil
      go_simp
      go_at_call 29
      refine (in_any a b x y (mkP X D) (mkQ X D) (mkP Y D) (mkQ Y D) s0 A0 n0 c0 t0 B0 m0 d0 s1 A1 n1 c1 t1 B1 m1 d1 v1 F0_1.out F1_1.out ⟨⟨mkQ_pos, mkPQ_lim (i64_lim (WalkArith.wf_i64 (by have := HSS.out; unfold Sb at this; omega))) (i64_lim (WalkArith.wf_i64 (by have := HSS.out; unfold Sb at this; omega)))⟩, mkQ_pos, mkPQ_lim (i64_lim (WalkArith.wf_i64 (by have := HSS.out; unfold Sb at this; omega))) (i64_lim (WalkArith.wf_i64 (by have := HSS.out; unfold Sb at this; omega)))⟩ (co4_wf HCi.out)).mono ?_
      rw [in_rin HSS.out.1.1, HR.out.1]
      rintro e v2 ⟨rfl, hk⟩
      have HB_2 := Lib.hid hk
      go_wp2_with fail
      clear F0_1
      clear F1_1
      have HX_2 := Lib.hid (bt HX_1.out HB_2.out)
      refine hK.out _ _ (⟨(HGi.out _ HX_2.out).1, (HGi.out _ HX_2.out).2.1, (HGi.out _ HX_2.out).2.2.1, (HGi.out _ HX_2.out).2.2.2, (HPL.out.new HX_2.out).cells.1, (HPL.out.new HX_2.out).cells.2.1, (HPL.out.new HX_2.out).cells.2.2, (HVL.out.new HX_2.out).cells.1, (HVL.out.new HX_2.out).cells.2.1, HX_2.out⟩) (fun hHeld2 => ?_)
      clear hHeld
      have hHeld := hHeld2
      clear hHeld2 hK K hk HB_2 HX_1
      try simp only [Act.put, List.getElem_toArray, List.getElem_cons_zero, List.getElem_cons_succ, List.setIfInBounds_toArray, List.set_cons_zero, List.set_cons_succ]
      refine wpAnyH_ready (rs := [12]) (by kernel_rfl) (by simp) ?_
      refine AllReadyH.cons rfl (fun K hK => ?_) AllReadyH.nil
      go_simp
      go_at_call 30
      refine (rin_any a b x y X Y D v2 HSS.out HCi.out.1 HCi.out.2.1 HCi.out.2.2.1 HCi.out.2.2.2).mono ?_
      rw [HR.out.1]
      rintro e v3 ⟨rfl, hk⟩
      have HB_3 := Lib.hid hk
      go_wp2_with fail
      have HX_3 := Lib.hid (bt HX_2.out HB_3.out)
      refine hK.out _ _ (⟨(HGi.out _ HX_3.out).1, (HGi.out _ HX_3.out).2.1, (HGi.out _ HX_3.out).2.2.1, (HGi.out _ HX_3.out).2.2.2, (HPL.out.new HX_3.out).cells.1, (HPL.out.new HX_3.out).cells.2.1, (HPL.out.new HX_3.out).cells.2.2, (HVL.out.new HX_3.out).cells.1, (HVL.out.new HX_3.out).cells.2.1, HX_3.out⟩) (fun hHeld2 => ?_)
      clear hHeld
      have hHeld := hHeld2
      clear hHeld2 hK K hk HB_3 HX_2
      try simp only [Act.put, List.getElem_toArray, List.getElem_cons_zero, List.getElem_cons_succ, List.setIfInBounds_toArray, List.set_cons_zero, List.set_cons_succ]
      refine wpAnyH_take (i := 13) (v := ?_) rfl (by kernel_rfl) (by kernel_rfl) (by kernel_rfl) (fun _ _ _ h => h) (Or.inl ⟨by kernel_rfl, ?_⟩) (by assumption) ?_
      rotate_left
      · intro w hSw
        (try dsimp only at hSw)
        go_simp
        all_goals (with_reducible rfl)
      try simp only [Act.put, List.getElem_toArray, List.getElem_cons_zero, List.getElem_cons_succ, List.setIfInBounds_toArray, List.set_cons_zero, List.set_cons_succ]
      refine wpAnyH_take (i := 14) (v := ?_) rfl (by kernel_rfl) (by kernel_rfl) (by kernel_rfl) (fun _ _ _ h => h) (Or.inl ⟨by kernel_rfl, ?_⟩) (by assumption) ?_
      rotate_left
      · intro w hSw
        (try dsimp only at hSw)
        go_simp
        all_goals (with_reducible rfl)
      try simp only [Act.put, List.getElem_toArray, List.getElem_cons_zero, List.getElem_cons_succ, List.setIfInBounds_toArray, List.set_cons_zero, List.set_cons_succ]
      refine wpAnyH_take (i := 15) (v := ?_) rfl (by kernel_rfl) (by kernel_rfl) (by kernel_rfl) (fun _ _ _ h => h) (Or.inl ⟨by kernel_rfl, ?_⟩) (by assumption) ?_
      rotate_left
      · intro w hSw
        (try dsimp only at hSw)
        go_simp
        all_goals (with_reducible rfl)
      try simp only [Act.put, List.getElem_toArray, List.getElem_cons_zero, List.getElem_cons_succ, List.setIfInBounds_toArray, List.set_cons_zero, List.set_cons_succ]
      refine wpAnyH_take (i := 16) (v := ?_) rfl (by kernel_rfl) (by kernel_rfl) (by kernel_rfl) (fun _ _ _ h => h) (Or.inl ⟨by kernel_rfl, ?_⟩) (by assumption) ?_
      rotate_left
      · intro w hSw
        (try dsimp only at hSw)
        go_simp
        all_goals (with_reducible rfl)
      try simp only [Act.put, List.getElem_toArray, List.getElem_cons_zero, List.getElem_cons_succ, List.setIfInBounds_toArray, List.set_cons_zero, List.set_cons_succ]
      refine wpAnyH_take (i := 17) (v := ?_) rfl (by kernel_rfl) (by kernel_rfl) (by kernel_rfl) (fun _ _ _ h => h) (Or.inl ⟨by kernel_rfl, ?_⟩) (by assumption) ?_
      rotate_left
      · intro w hSw
        (try dsimp only at hSw)
        go_simp
        all_goals (with_reducible rfl)
      try simp only [Act.put, List.getElem_toArray, List.getElem_cons_zero, List.getElem_cons_succ, List.setIfInBounds_toArray, List.set_cons_zero, List.set_cons_succ]
      refine wpAnyH_take (i := 18) (v := ?_) rfl (by kernel_rfl) (by kernel_rfl) (by kernel_rfl) (fun _ _ _ h => h) (Or.inl ⟨by kernel_rfl, ?_⟩) (by assumption) ?_
      rotate_left
      · intro w hSw
        (try dsimp only at hSw)
        go_simp
        all_goals (with_reducible rfl)
      try simp only [Act.put, List.getElem_toArray, List.getElem_cons_zero, List.getElem_cons_succ, List.setIfInBounds_toArray, List.set_cons_zero, List.set_cons_succ]
      refine wpAnyH_take (i := 19) (v := ?_) rfl (by kernel_rfl) (by kernel_rfl) (by kernel_rfl) (fun _ _ _ h => h) (Or.inl ⟨by kernel_rfl, ?_⟩) (by assumption) ?_
      rotate_left
      · intro w hSw
        (try dsimp only at hSw)
        go_simp
        all_goals (with_reducible rfl)
      try simp only [Act.put, List.getElem_toArray, List.getElem_cons_zero, List.getElem_cons_succ, List.setIfInBounds_toArray, List.set_cons_zero, List.set_cons_succ]
      refine wpAnyH_take (i := 20) (v := ?_) rfl (by kernel_rfl) (by kernel_rfl) (by kernel_rfl) (fun _ _ _ h => h) (Or.inl ⟨by kernel_rfl, ?_⟩) (by assumption) ?_
      rotate_left
      · intro w hSw
        (try dsimp only at hSw)
        go_simp
        all_goals (with_reducible rfl)
      try simp only [Act.put, List.getElem_toArray, List.getElem_cons_zero, List.getElem_cons_succ, List.setIfInBounds_toArray, List.set_cons_zero, List.set_cons_succ]
      refine wpAnyH_take (i := 23) (v := ?_) rfl (by kernel_rfl) (by kernel_rfl) (by kernel_rfl) (fun _ _ _ h => h) (Or.inl ⟨by kernel_rfl, ?_⟩) (by assumption) ?_
      rotate_left
      · intro w hSw
        (try dsimp only at hSw)
        go_simp
        all_goals (with_reducible rfl)
      try simp only [Act.put, List.getElem_toArray, List.getElem_cons_zero, List.getElem_cons_succ, List.setIfInBounds_toArray, List.set_cons_zero, List.set_cons_succ]
      refine wpAnyH_take (i := 24) (v := ?_) rfl (by kernel_rfl) (by kernel_rfl) (by kernel_rfl) (fun _ _ _ h => h) (Or.inl ⟨by kernel_rfl, ?_⟩) (by assumption) ?_
      rotate_left
      · intro w hSw
        (try dsimp only at hSw)
        go_simp
        all_goals (with_reducible rfl)
      try simp only [Act.put, List.getElem_toArray, List.getElem_cons_zero, List.getElem_cons_succ, List.setIfInBounds_toArray, List.set_cons_zero, List.set_cons_succ]
      refine wpAnyH_take (i := 25) (v := ?_) rfl (by kernel_rfl) (by kernel_rfl) (by kernel_rfl) (fun _ _ _ h => h) (Or.inl ⟨by kernel_rfl, ?_⟩) (by assumption) ?_
      rotate_left
      · intro w hSw
        (try dsimp only at hSw)
        go_simp
        all_goals (with_reducible rfl)
      try simp only [Act.put, List.getElem_toArray, List.getElem_cons_zero, List.getElem_cons_succ, List.setIfInBounds_toArray, List.set_cons_zero, List.set_cons_succ]
      refine wpAnyH_take (i := 26) (v := ?_) rfl (by kernel_rfl) (by kernel_rfl) (by kernel_rfl) (fun _ _ _ h => h) (Or.inl ⟨by kernel_rfl, ?_⟩) (by assumption) ?_
      rotate_left
      · intro w hSw
        (try dsimp only at hSw)
        go_simp
        all_goals (with_reducible rfl)
      try simp only [Act.put, List.getElem_toArray, List.getElem_cons_zero, List.getElem_cons_succ, List.setIfInBounds_toArray, List.set_cons_zero, List.set_cons_succ]
      refine wpAnyH_take (i := 27) (v := ?_) rfl (by kernel_rfl) (by kernel_rfl) (by kernel_rfl) (fun _ _ _ h => h) (Or.inl ⟨by kernel_rfl, ?_⟩) (by assumption) ?_
      rotate_left
      · intro w hSw
        (try dsimp only at hSw)
        go_simp
        all_goals (with_reducible rfl)
      try simp only [Act.put, List.getElem_toArray, List.getElem_cons_zero, List.getElem_cons_succ, List.setIfInBounds_toArray, List.set_cons_zero, List.set_cons_succ]
      refine wpAnyH_take (i := 28) (v := ?_) rfl (by kernel_rfl) (by kernel_rfl) (by kernel_rfl) (fun _ _ _ h => h) (Or.inl ⟨by kernel_rfl, ?_⟩) (by assumption) ?_
      rotate_left
      · intro w hSw
        (try dsimp only at hSw)
        go_simp
        all_goals (with_reducible rfl)
      try simp only [Act.put, List.getElem_toArray, List.getElem_cons_zero, List.getElem_cons_succ, List.setIfInBounds_toArray, List.set_cons_zero, List.set_cons_succ]
      refine wpAnyH_ready (rs := [21]) (by kernel_rfl) (by simp) ?_
      refine AllReadyH.cons rfl (fun K hK => ?_) AllReadyH.nil
      go_simp
      go_at_call 26
      refine (pof_any x2 y2 v3 (co_wf HC2L.out.1) (co_wf HC2L.out.2)).mono ?_
      rintro e v4 ⟨s2, A2, n2, c2, t2, B2, m2, d2, s3, A3, n3, c3, t3, B3, m3, d3, rfl, hr1, hr2, hk⟩
      have F2_4 := Lib.hid (hr1)
      have F3_4 := Lib.hid (hr2)
      have HB_4 := Lib.hid hk
      go_wp2_with fail
      have HX_4 := Lib.hid (bt HX_3.out HB_4.out)
      refine hK.out _ _ (⟨(HGi.out _ HX_4.out).1, (HGi.out _ HX_4.out).2.1, (HGi.out _ HX_4.out).2.2.1, (HGi.out _ HX_4.out).2.2.2, (HPL.out.new HX_4.out).cells.1, (HPL.out.new HX_4.out).cells.2.1, (HPL.out.new HX_4.out).cells.2.2, (HVL.out.new HX_4.out).cells.1, (HVL.out.new HX_4.out).cells.2.1, HX_4.out⟩) (fun hHeld2 => ?_)
      clear hHeld
      have hHeld := hHeld2
      clear hHeld2 hK K hk HB_4 hr1 hr2 HX_3
      try simp only [Act.put, List.getElem_toArray, List.getElem_cons_zero, List.getElem_cons_succ, List.setIfInBounds_toArray, List.set_cons_zero, List.set_cons_succ]
      refine wpAnyH_ready (rs := [22]) (by kernel_rfl) (by simp) ?_
      refine AllReadyH.cons rfl (fun K hK => ?_) AllReadyH.nil
      go_simp
      go_at_call 29
      refine (in_any a b x y x2 1 y2 1 s2 A2 n2 c2 t2 B2 m2 d2 s3 A3 n3 c3 t3 B3 m3 d3 v4 F2_4.out F3_4.out ⟨⟨by decide, i64_lim (co_wf HC2L.out.1), one_lim⟩, ⟨by decide, i64_lim (co_wf HC2L.out.2), one_lim⟩⟩ (co4_wf HCi.out)).mono ?_
      rw [in_rin1, HR.out.2]
      rintro e v5 ⟨rfl, hk⟩
      have HB_5 := Lib.hid hk
      go_wp2_with fail
      clear F2_4
      clear F3_4
      have HX_5 := Lib.hid (bt HX_4.out HB_5.out)
      refine hK.out _ _ (⟨(HGi.out _ HX_5.out).1, (HGi.out _ HX_5.out).2.1, (HGi.out _ HX_5.out).2.2.1, (HGi.out _ HX_5.out).2.2.2, (HPL.out.new HX_5.out).cells.1, (HPL.out.new HX_5.out).cells.2.1, (HPL.out.new HX_5.out).cells.2.2, (HVL.out.new HX_5.out).cells.1, (HVL.out.new HX_5.out).cells.2.1, HX_5.out⟩) (fun hHeld2 => ?_)
      clear hHeld
      have hHeld := hHeld2
      clear hHeld2 hK K hk HB_5 HX_4
      try simp only [Act.put, List.getElem_toArray, List.getElem_cons_zero, List.getElem_cons_succ, List.setIfInBounds_toArray, List.set_cons_zero, List.set_cons_succ]
      refine wpAnyH_ready (rs := [29]) (by kernel_rfl) (by simp) ?_
      refine AllReadyH.cons rfl (fun K hK => ?_) AllReadyH.nil
      go_simp
      go_at_call 31
      refine (rof_any x2 y2 v5).mono ?_
      rintro e v6 ⟨rfl, hk⟩
      have HB_6 := Lib.hid hk
      go_wp2_with fail
      have HX_6 := Lib.hid (bt HX_5.out HB_6.out)
      refine hK.out _ _ (⟨(HGi.out _ HX_6.out).1, (HGi.out _ HX_6.out).2.1, (HGi.out _ HX_6.out).2.2.1, (HGi.out _ HX_6.out).2.2.2, (HPL.out.new HX_6.out).cells.1, (HPL.out.new HX_6.out).cells.2.1, (HPL.out.new HX_6.out).cells.2.2, (HVL.out.new HX_6.out).cells.1, (HVL.out.new HX_6.out).cells.2.1, HX_6.out⟩) (fun hHeld2 => ?_)
      clear hHeld
      have hHeld := hHeld2
      clear hHeld2 hK K hk HB_6 HX_5
      try simp only [Act.put, List.getElem_toArray, List.getElem_cons_zero, List.getElem_cons_succ, List.setIfInBounds_toArray, List.set_cons_zero, List.set_cons_succ]
      refine wpAnyH_ready (rs := [30]) (by kernel_rfl) (by simp) ?_
      refine AllReadyH.cons rfl (fun K hK => ?_) AllReadyH.nil
      go_simp
      go_at_call 30
      refine (rin_any a b x y x2 y2 1 v6 (by have := HC2L.out; unfold Co at this; unfold Sb; omega) HCi.out.1 HCi.out.2.1 HCi.out.2.2.1 HCi.out.2.2.2).mono ?_
      rw [HR.out.2]
      rintro e v7 ⟨rfl, hk⟩
      have HB_7 := Lib.hid hk
      go_wp2_with fail
      have HX_7 := Lib.hid (bt HX_6.out HB_7.out)
      refine hK.out _ _ (⟨(HGi.out _ HX_7.out).1, (HGi.out _ HX_7.out).2.1, (HGi.out _ HX_7.out).2.2.1, (HGi.out _ HX_7.out).2.2.2, (HPL.out.new HX_7.out).cells.1, (HPL.out.new HX_7.out).cells.2.1, (HPL.out.new HX_7.out).cells.2.2, (HVL.out.new HX_7.out).cells.1, (HVL.out.new HX_7.out).cells.2.1, HX_7.out⟩) (fun hHeld2 => ?_)
      clear hHeld
      have hHeld := hHeld2
      clear hHeld2 hK K hk HB_7 HX_6
      try simp only [Act.put, List.getElem_toArray, List.getElem_cons_zero, List.getElem_cons_succ, List.setIfInBounds_toArray, List.set_cons_zero, List.set_cons_succ]
      refine wpAnyH_take (i := 31) (v := ?_) rfl (by kernel_rfl) (by kernel_rfl) (by kernel_rfl) (fun _ _ _ h => h) (Or.inl ⟨by kernel_rfl, ?_⟩) (by assumption) ?_
      rotate_left
      · intro w hSw
        (try dsimp only at hSw)
        go_simp
        all_goals (with_reducible rfl)
      try simp only [Act.put, List.getElem_toArray, List.getElem_cons_zero, List.getElem_cons_succ, List.setIfInBounds_toArray, List.set_cons_zero, List.set_cons_succ]
      refine wpAnyH_take (i := 32) (v := ?_) rfl (by kernel_rfl) (by kernel_rfl) (by kernel_rfl) (fun _ _ _ h => h) (Or.inl ⟨by kernel_rfl, ?_⟩) (by assumption) ?_
      rotate_left
      · intro w hSw
        (try dsimp only at hSw)
        go_simp
        all_goals (with_reducible rfl)
      try simp only [Act.put, List.getElem_toArray, List.getElem_cons_zero, List.getElem_cons_succ, List.setIfInBounds_toArray, List.set_cons_zero, List.set_cons_succ]
      refine wpAnyH_done (by kernel_rfl) ?_ _
      clear hHeld
      have HBi := Lib.hid HX_7.out
      clear HR
      obtain ⟨Wo, hWo⟩ : ∃ z, z = v7 := ⟨_, rfl⟩
      subst hWo
      go_wp2_with fail
      go_loopw [16] (fun tv wr => ∃ j : Nat, j ≤ 4 ∧ tv = .int .i64 (j : Int) ∧ Below WL.heap.size WL wr) (fun tv _ => 4 - (intOf tv).toNat)
      case atStart => exact ⟨0, by omega, rfl, HBi.out⟩
      case round =>
        clear HBi HB
        obtain ⟨j, hj, rfl, hbel⟩ := hrel
        have HB := Lib.hid hbel
        clear hbel
        by_cases hjl : j < 4
        · have h0j : (0 : Int) ≤ (j : Int) := by omega
          have hj4 : (j : Int) < 4 := by omega
          obtain ⟨a', b', x', y', hp, hm⟩ := getb HLc.out.1 hjl HLc.out.2
          have HGj := Lib.hid (fun (w' : World) (hb : Below WL.heap.size WL w') => (HL.out.new hb).get4 hp)
          have HCj := Lib.hid hm
          clear hp hm
          obtain ⟨r3, hr3⟩ : ∃ z, mtV a b x y a' b' x' y' = z := ⟨_, rfl⟩
          have HR3 := Lib.hid hr3
          clear hr3
          go_wp2_with fail
          obtain ⟨v0, hv0⟩ : ∃ z, World.drew wr = z := ⟨_, rfl⟩
          have HD0 := Lib.hid (show Below wr.heap.size wr v0 by rw [← hv0]; exact (Below.refl _ _).drew)
          have HX_0 := Lib.hid (bt HB.out HD0.out)
          refine wp_region_held_drew (S := (fun w' : World => w'.cell? ⟨G, i * 4, none⟩ = some (.int .i64 a) ∧ w'.cell? ⟨G, i * 4 + 1, none⟩ = some (.int .i64 b) ∧ w'.cell? ⟨G, i * 4 + 2, none⟩ = some (.int .i64 x) ∧ w'.cell? ⟨G, i * 4 + 3, none⟩ = some (.int .i64 y) ∧ w'.cell? ⟨G, j * 4, none⟩ = some (.int .i64 a') ∧ w'.cell? ⟨G, j * 4 + 1, none⟩ = some (.int .i64 b') ∧ w'.cell? ⟨G, j * 4 + 2, none⟩ = some (.int .i64 x') ∧ w'.cell? ⟨G, j * 4 + 3, none⟩ = some (.int .i64 y') ∧ Below WL.heap.size WL w')) (by kernel_rfl) ?_ (fun hHeld => ?_)
          · rw [hv0]
            exact ⟨(HGi.out _ HX_0.out).1, (HGi.out _ HX_0.out).2.1, (HGi.out _ HX_0.out).2.2.1, (HGi.out _ HX_0.out).2.2.2, (HGj.out _ HX_0.out).1, (HGj.out _ HX_0.out).2.1, (HGj.out _ HX_0.out).2.2.1, (HGj.out _ HX_0.out).2.2.2, HX_0.out⟩
          rw [hv0] at hHeld ⊢
          clear hv0 HD0
          refine wpAnyH_take (i := 0) (v := ?_) rfl (by kernel_rfl) (by kernel_rfl) (by kernel_rfl) (fun _ _ _ h => h) (Or.inl ⟨by kernel_rfl, ?_⟩) (by assumption) ?_
          rotate_left
          · intro w hSw
            (try dsimp only at hSw)
            go_simp
            all_goals (with_reducible rfl)
          try simp only [Act.put, List.getElem_toArray, List.getElem_cons_zero, List.setIfInBounds_toArray, List.set_cons_zero, List.set_cons_succ]
          refine wpAnyH_take (i := 1) (v := ?_) rfl (by kernel_rfl) (by kernel_rfl) (by kernel_rfl) (fun _ _ _ h => h) (Or.inl ⟨by kernel_rfl, ?_⟩) (by assumption) ?_
          rotate_left
          · intro w hSw
            (try dsimp only at hSw)
            go_simp
            all_goals (with_reducible rfl)
          try simp only [Act.put, List.getElem_toArray, List.getElem_cons_zero, List.getElem_cons_succ, List.setIfInBounds_toArray, List.set_cons_zero, List.set_cons_succ]
          refine wpAnyH_take (i := 2) (v := ?_) rfl (by kernel_rfl) (by kernel_rfl) (by kernel_rfl) (fun _ _ _ h => h) (Or.inl ⟨by kernel_rfl, ?_⟩) (by assumption) ?_
          rotate_left
          · intro w hSw
            (try dsimp only at hSw)
            go_simp
            all_goals (with_reducible rfl)
          try simp only [Act.put, List.getElem_toArray, List.getElem_cons_zero, List.getElem_cons_succ, List.setIfInBounds_toArray, List.set_cons_zero, List.set_cons_succ]
          refine wpAnyH_take (i := 3) (v := ?_) rfl (by kernel_rfl) (by kernel_rfl) (by kernel_rfl) (fun _ _ _ h => h) (Or.inl ⟨by kernel_rfl, ?_⟩) (by assumption) ?_
          rotate_left
          · intro w hSw
            (try dsimp only at hSw)
            go_simp
            all_goals (with_reducible rfl)
          try simp only [Act.put, List.getElem_toArray, List.getElem_cons_zero, List.getElem_cons_succ, List.setIfInBounds_toArray, List.set_cons_zero, List.set_cons_succ]
          refine wpAnyH_take (i := 4) (v := ?_) rfl (by kernel_rfl) (by kernel_rfl) (by kernel_rfl) (fun _ _ _ h => h) (Or.inl ⟨by kernel_rfl, ?_⟩) (by assumption) ?_
          rotate_left
          · intro w hSw
            (try dsimp only at hSw)
            go_simp
            all_goals (with_reducible rfl)
          try simp only [Act.put, List.getElem_toArray, List.getElem_cons_zero, List.getElem_cons_succ, List.setIfInBounds_toArray, List.set_cons_zero, List.set_cons_succ]
          refine wpAnyH_take (i := 5) (v := ?_) rfl (by kernel_rfl) (by kernel_rfl) (by kernel_rfl) (fun _ _ _ h => h) (Or.inl ⟨by kernel_rfl, ?_⟩) (by assumption) ?_
          rotate_left
          · intro w hSw
            (try dsimp only at hSw)
            go_simp
            all_goals (with_reducible rfl)
          try simp only [Act.put, List.getElem_toArray, List.getElem_cons_zero, List.getElem_cons_succ, List.setIfInBounds_toArray, List.set_cons_zero, List.set_cons_succ]
          refine wpAnyH_take (i := 6) (v := ?_) rfl (by kernel_rfl) (by kernel_rfl) (by kernel_rfl) (fun _ _ _ h => h) (Or.inl ⟨by kernel_rfl, ?_⟩) (by assumption) ?_
          rotate_left
          · intro w hSw
            (try dsimp only at hSw)
            go_simp
            all_goals (with_reducible rfl)
          try simp only [Act.put, List.getElem_toArray, List.getElem_cons_zero, List.getElem_cons_succ, List.setIfInBounds_toArray, List.set_cons_zero, List.set_cons_succ]
          refine wpAnyH_take (i := 7) (v := ?_) rfl (by kernel_rfl) (by kernel_rfl) (by kernel_rfl) (fun _ _ _ h => h) (Or.inl ⟨by kernel_rfl, ?_⟩) (by assumption) ?_
          rotate_left
          · intro w hSw
            (try dsimp only at hSw)
            go_simp
            all_goals (with_reducible rfl)
          try simp only [Act.put, List.getElem_toArray, List.getElem_cons_zero, List.getElem_cons_succ, List.setIfInBounds_toArray, List.set_cons_zero, List.set_cons_succ]
          refine wpAnyH_ready (rs := [8]) (by kernel_rfl) (by simp) ?_
          refine AllReadyH.cons rfl (fun K hK => ?_) AllReadyH.nil
          go_simp
          go_at_call 32
          refine (meets_any a b x y a' b' x' y' v0).mono ?_
          rw [HR3.out]
          rintro e v1 ⟨rfl, hk⟩
          have HB_1 := Lib.hid hk
          go_wp2_with fail
          have HX_1 := Lib.hid (bt HX_0.out HB_1.out)
          refine hK.out _ _ (⟨(HGi.out _ HX_1.out).1, (HGi.out _ HX_1.out).2.1, (HGi.out _ HX_1.out).2.2.1, (HGi.out _ HX_1.out).2.2.2, (HGj.out _ HX_1.out).1, (HGj.out _ HX_1.out).2.1, (HGj.out _ HX_1.out).2.2.1, (HGj.out _ HX_1.out).2.2.2, HX_1.out⟩) (fun hHeld2 => ?_)
          clear hHeld
          have hHeld := hHeld2
          clear hHeld2 hK K hk HB_1 HX_0
          try simp only [Act.put, List.getElem_toArray, List.getElem_cons_zero, List.getElem_cons_succ, List.setIfInBounds_toArray, List.set_cons_zero, List.set_cons_succ]
          refine wpAnyH_take (i := 9) (v := ?_) rfl (by kernel_rfl) (by kernel_rfl) (by kernel_rfl) (fun _ _ _ h => h) (Or.inl ⟨by kernel_rfl, ?_⟩) (by assumption) ?_
          rotate_left
          · intro w hSw
            (try dsimp only at hSw)
            go_simp
            all_goals (with_reducible rfl)
          try simp only [Act.put, List.getElem_toArray, List.getElem_cons_zero, List.getElem_cons_succ, List.setIfInBounds_toArray, List.set_cons_zero, List.set_cons_succ]
          refine wpAnyH_done (by kernel_rfl) ?_ _
          clear hHeld
          have HBk := Lib.hid HX_1.out
          obtain ⟨Wk, hWk⟩ : ∃ z, z = v1 := ⟨_, rfl⟩
          subst hWk
          go_wp2_with fail
          obtain ⟨v0, hv0⟩ : ∃ z, World.drew Wk = z := ⟨_, rfl⟩
          have HD0 := Lib.hid (show Below Wk.heap.size Wk v0 by rw [← hv0]; exact (Below.refl _ _).drew)
          have HX_0 := Lib.hid (bt HBk.out HD0.out)
          refine wp_region_held_drew (S := (fun w' : World => w'.cell? ⟨G, i * 4, none⟩ = some (.int .i64 a) ∧ w'.cell? ⟨G, i * 4 + 1, none⟩ = some (.int .i64 b) ∧ w'.cell? ⟨G, i * 4 + 2, none⟩ = some (.int .i64 x) ∧ w'.cell? ⟨G, i * 4 + 3, none⟩ = some (.int .i64 y) ∧ w'.cell? ⟨G, j * 4, none⟩ = some (.int .i64 a') ∧ w'.cell? ⟨G, j * 4 + 1, none⟩ = some (.int .i64 b') ∧ w'.cell? ⟨G, j * 4 + 2, none⟩ = some (.int .i64 x') ∧ w'.cell? ⟨G, j * 4 + 3, none⟩ = some (.int .i64 y') ∧ Below WL.heap.size WL w')) (by kernel_rfl) ?_ (fun hHeld => ?_)
          · rw [hv0]
            exact ⟨(HGi.out _ HX_0.out).1, (HGi.out _ HX_0.out).2.1, (HGi.out _ HX_0.out).2.2.1, (HGi.out _ HX_0.out).2.2.2, (HGj.out _ HX_0.out).1, (HGj.out _ HX_0.out).2.1, (HGj.out _ HX_0.out).2.2.1, (HGj.out _ HX_0.out).2.2.2, HX_0.out⟩
          rw [hv0] at hHeld ⊢
          clear hv0 HD0
          refine wpAnyH_take (i := 0) (v := ?_) rfl (by kernel_rfl) (by kernel_rfl) (by kernel_rfl) (fun _ _ _ h => h) (Or.inl ⟨by kernel_rfl, ?_⟩) (by assumption) ?_
          rotate_left
          · intro w hSw
            (try dsimp only at hSw)
            go_simp
            all_goals (with_reducible rfl)
          try simp only [Act.put, List.getElem_toArray, List.getElem_cons_zero, List.setIfInBounds_toArray, List.set_cons_zero, List.set_cons_succ]
          refine wpAnyH_take (i := 1) (v := ?_) rfl (by kernel_rfl) (by kernel_rfl) (by kernel_rfl) (fun _ _ _ h => h) (Or.inl ⟨by kernel_rfl, ?_⟩) (by assumption) ?_
          rotate_left
          · intro w hSw
            (try dsimp only at hSw)
            go_simp
            all_goals (with_reducible rfl)
          try simp only [Act.put, List.getElem_toArray, List.getElem_cons_zero, List.getElem_cons_succ, List.setIfInBounds_toArray, List.set_cons_zero, List.set_cons_succ]
          refine wpAnyH_take (i := 2) (v := ?_) rfl (by kernel_rfl) (by kernel_rfl) (by kernel_rfl) (fun _ _ _ h => h) (Or.inl ⟨by kernel_rfl, ?_⟩) (by assumption) ?_
          rotate_left
          · intro w hSw
            (try dsimp only at hSw)
            go_simp
            all_goals (with_reducible rfl)
          try simp only [Act.put, List.getElem_toArray, List.getElem_cons_zero, List.getElem_cons_succ, List.setIfInBounds_toArray, List.set_cons_zero, List.set_cons_succ]
          refine wpAnyH_take (i := 3) (v := ?_) rfl (by kernel_rfl) (by kernel_rfl) (by kernel_rfl) (fun _ _ _ h => h) (Or.inl ⟨by kernel_rfl, ?_⟩) (by assumption) ?_
          rotate_left
          · intro w hSw
            (try dsimp only at hSw)
            go_simp
            all_goals (with_reducible rfl)
          try simp only [Act.put, List.getElem_toArray, List.getElem_cons_zero, List.getElem_cons_succ, List.setIfInBounds_toArray, List.set_cons_zero, List.set_cons_succ]
          refine wpAnyH_take (i := 4) (v := ?_) rfl (by kernel_rfl) (by kernel_rfl) (by kernel_rfl) (fun _ _ _ h => h) (Or.inl ⟨by kernel_rfl, ?_⟩) (by assumption) ?_
          rotate_left
          · intro w hSw
            (try dsimp only at hSw)
            go_simp
            all_goals (with_reducible rfl)
          try simp only [Act.put, List.getElem_toArray, List.getElem_cons_zero, List.getElem_cons_succ, List.setIfInBounds_toArray, List.set_cons_zero, List.set_cons_succ]
          refine wpAnyH_take (i := 5) (v := ?_) rfl (by kernel_rfl) (by kernel_rfl) (by kernel_rfl) (fun _ _ _ h => h) (Or.inl ⟨by kernel_rfl, ?_⟩) (by assumption) ?_
          rotate_left
          · intro w hSw
            (try dsimp only at hSw)
            go_simp
            all_goals (with_reducible rfl)
          try simp only [Act.put, List.getElem_toArray, List.getElem_cons_zero, List.getElem_cons_succ, List.setIfInBounds_toArray, List.set_cons_zero, List.set_cons_succ]
          refine wpAnyH_take (i := 6) (v := ?_) rfl (by kernel_rfl) (by kernel_rfl) (by kernel_rfl) (fun _ _ _ h => h) (Or.inl ⟨by kernel_rfl, ?_⟩) (by assumption) ?_
          rotate_left
          · intro w hSw
            (try dsimp only at hSw)
            go_simp
            all_goals (with_reducible rfl)
          try simp only [Act.put, List.getElem_toArray, List.getElem_cons_zero, List.getElem_cons_succ, List.setIfInBounds_toArray, List.set_cons_zero, List.set_cons_succ]
          refine wpAnyH_take (i := 7) (v := ?_) rfl (by kernel_rfl) (by kernel_rfl) (by kernel_rfl) (fun _ _ _ h => h) (Or.inl ⟨by kernel_rfl, ?_⟩) (by assumption) ?_
          rotate_left
          · intro w hSw
            (try dsimp only at hSw)
            go_simp
            all_goals (with_reducible rfl)
          try simp only [Act.put, List.getElem_toArray, List.getElem_cons_zero, List.getElem_cons_succ, List.setIfInBounds_toArray, List.set_cons_zero, List.set_cons_succ]
          refine wpAnyH_take (i := 8) (v := ?_) rfl (by kernel_rfl) (by kernel_rfl) (by kernel_rfl) (fun _ _ _ h => h) (Or.inl ⟨by kernel_rfl, ?_⟩) (by assumption) ?_
          rotate_left
          · intro w hSw
            (try dsimp only at hSw)
            go_simp
            all_goals (with_reducible rfl)
          try simp only [Act.put, List.getElem_toArray, List.getElem_cons_zero, List.getElem_cons_succ, List.setIfInBounds_toArray, List.set_cons_zero, List.set_cons_succ]
          refine wpAnyH_ready (rs := [9]) (by kernel_rfl) (by simp) ?_
          refine AllReadyH.cons rfl (fun K hK => ?_) AllReadyH.nil
          go_simp
          go_at_call 33
          refine (rmeets_any a b x y a' b' x' y' v0).mono ?_
          rw [HR3.out]
          rintro e v1 ⟨rfl, hk⟩
          have HB_1 := Lib.hid hk
          go_wp2_with fail
          have HX_1 := Lib.hid (bt HX_0.out HB_1.out)
          refine hK.out _ _ (⟨(HGi.out _ HX_1.out).1, (HGi.out _ HX_1.out).2.1, (HGi.out _ HX_1.out).2.2.1, (HGi.out _ HX_1.out).2.2.2, (HGj.out _ HX_1.out).1, (HGj.out _ HX_1.out).2.1, (HGj.out _ HX_1.out).2.2.1, (HGj.out _ HX_1.out).2.2.2, HX_1.out⟩) (fun hHeld2 => ?_)
          clear hHeld
          have hHeld := hHeld2
          clear hHeld2 hK K hk HB_1 HX_0
          try simp only [Act.put, List.getElem_toArray, List.getElem_cons_zero, List.getElem_cons_succ, List.setIfInBounds_toArray, List.set_cons_zero, List.set_cons_succ]
          refine wpAnyH_take (i := 10) (v := ?_) rfl (by kernel_rfl) (by kernel_rfl) (by kernel_rfl) (fun _ _ _ h => h) (Or.inl ⟨by kernel_rfl, ?_⟩) (by assumption) ?_
          rotate_left
          · intro w hSw
            (try dsimp only at hSw)
            go_simp
            all_goals (with_reducible rfl)
          try simp only [Act.put, List.getElem_toArray, List.getElem_cons_zero, List.getElem_cons_succ, List.setIfInBounds_toArray, List.set_cons_zero, List.set_cons_succ]
          refine wpAnyH_take (i := 11) (v := ?_) rfl (by kernel_rfl) (by kernel_rfl) (by kernel_rfl) (fun _ _ _ h => h) (Or.inl ⟨by kernel_rfl, ?_⟩) (by assumption) ?_
          rotate_left
          · intro w hSw
            (try dsimp only at hSw)
            go_simp
            all_goals (with_reducible rfl)
          try simp only [Act.put, List.getElem_toArray, List.getElem_cons_zero, List.getElem_cons_succ, List.setIfInBounds_toArray, List.set_cons_zero, List.set_cons_succ]
          refine wpAnyH_take (i := 12) (v := ?_) rfl (by kernel_rfl) (by kernel_rfl) (by kernel_rfl) (fun _ _ _ h => h) (Or.inl ⟨by kernel_rfl, ?_⟩) (by assumption) ?_
          rotate_left
          · intro w hSw
            (try dsimp only at hSw)
            go_simp
            all_goals (with_reducible rfl)
          try simp only [Act.put, List.getElem_toArray, List.getElem_cons_zero, List.getElem_cons_succ, List.setIfInBounds_toArray, List.set_cons_zero, List.set_cons_succ]
          refine wpAnyH_take (i := 13) (v := ?_) rfl (by kernel_rfl) (by kernel_rfl) (by kernel_rfl) (fun _ _ _ h => h) (Or.inl ⟨by kernel_rfl, ?_⟩) (by assumption) ?_
          rotate_left
          · intro w hSw
            (try dsimp only at hSw)
            go_simp
            all_goals (with_reducible rfl)
          try simp only [Act.put, List.getElem_toArray, List.getElem_cons_zero, List.getElem_cons_succ, List.setIfInBounds_toArray, List.set_cons_zero, List.set_cons_succ]
          refine wpAnyH_take (i := 14) (v := ?_) rfl (by kernel_rfl) (by kernel_rfl) (by kernel_rfl) (fun _ _ _ h => h) (Or.inl ⟨by kernel_rfl, ?_⟩) (by assumption) ?_
          rotate_left
          · intro w hSw
            (try dsimp only at hSw)
            go_simp
            all_goals (with_reducible rfl)
          try simp only [Act.put, List.getElem_toArray, List.getElem_cons_zero, List.getElem_cons_succ, List.setIfInBounds_toArray, List.set_cons_zero, List.set_cons_succ]
          refine wpAnyH_take (i := 15) (v := ?_) rfl (by kernel_rfl) (by kernel_rfl) (by kernel_rfl) (fun _ _ _ h => h) (Or.inl ⟨by kernel_rfl, ?_⟩) (by assumption) ?_
          rotate_left
          · intro w hSw
            (try dsimp only at hSw)
            go_simp
            all_goals (with_reducible rfl)
          try simp only [Act.put, List.getElem_toArray, List.getElem_cons_zero, List.getElem_cons_succ, List.setIfInBounds_toArray, List.set_cons_zero, List.set_cons_succ]
          refine wpAnyH_take (i := 16) (v := ?_) rfl (by kernel_rfl) (by kernel_rfl) (by kernel_rfl) (fun _ _ _ h => h) (Or.inl ⟨by kernel_rfl, ?_⟩) (by assumption) ?_
          rotate_left
          · intro w hSw
            (try dsimp only at hSw)
            go_simp
            all_goals (with_reducible rfl)
          try simp only [Act.put, List.getElem_toArray, List.getElem_cons_zero, List.getElem_cons_succ, List.setIfInBounds_toArray, List.set_cons_zero, List.set_cons_succ]
          refine wpAnyH_take (i := 17) (v := ?_) rfl (by kernel_rfl) (by kernel_rfl) (by kernel_rfl) (fun _ _ _ h => h) (Or.inl ⟨by kernel_rfl, ?_⟩) (by assumption) ?_
          rotate_left
          · intro w hSw
            (try dsimp only at hSw)
            go_simp
            all_goals (with_reducible rfl)
          try simp only [Act.put, List.getElem_toArray, List.getElem_cons_zero, List.getElem_cons_succ, List.setIfInBounds_toArray, List.set_cons_zero, List.set_cons_succ]
          refine wpAnyH_take (i := 18) (v := ?_) rfl (by kernel_rfl) (by kernel_rfl) (by kernel_rfl) (fun _ _ _ h => h) (Or.inl ⟨by kernel_rfl, ?_⟩) (by assumption) ?_
          rotate_left
          · intro w hSw
            (try dsimp only at hSw)
            go_simp
            all_goals (with_reducible rfl)
          try simp only [Act.put, List.getElem_toArray, List.getElem_cons_zero, List.getElem_cons_succ, List.setIfInBounds_toArray, List.set_cons_zero, List.set_cons_succ]
          refine wpAnyH_take (i := 19) (v := ?_) rfl (by kernel_rfl) (by kernel_rfl) (by kernel_rfl) (fun _ _ _ h => h) (Or.inl ⟨by kernel_rfl, ?_⟩) (by assumption) ?_
          rotate_left
          · intro w hSw
            (try dsimp only at hSw)
            go_simp
            all_goals (with_reducible rfl)
          try simp only [Act.put, List.getElem_toArray, List.getElem_cons_zero, List.getElem_cons_succ, List.setIfInBounds_toArray, List.set_cons_zero, List.set_cons_succ]
          refine wpAnyH_take (i := 20) (v := ?_) rfl (by kernel_rfl) (by kernel_rfl) (by kernel_rfl) (fun _ _ _ h => h) (Or.inl ⟨by kernel_rfl, ?_⟩) (by assumption) ?_
          rotate_left
          · intro w hSw
            (try dsimp only at hSw)
            go_simp
            all_goals (with_reducible rfl)
          try simp only [Act.put, List.getElem_toArray, List.getElem_cons_zero, List.getElem_cons_succ, List.setIfInBounds_toArray, List.set_cons_zero, List.set_cons_succ]
          refine wpAnyH_ready (rs := [21]) (by kernel_rfl) (by simp) ?_
          refine AllReadyH.cons rfl (fun K hK => ?_) AllReadyH.nil
          go_simp
          go_at_call 32
          refine (meets_any a' b' x' y' a b x y v1).mono ?_
          rw [mt_symm, HR3.out]
          rintro e v2 ⟨rfl, hk⟩
          have HB_2 := Lib.hid hk
          go_wp2_with fail
          have HX_2 := Lib.hid (bt HX_1.out HB_2.out)
          refine hK.out _ _ (⟨(HGi.out _ HX_2.out).1, (HGi.out _ HX_2.out).2.1, (HGi.out _ HX_2.out).2.2.1, (HGi.out _ HX_2.out).2.2.2, (HGj.out _ HX_2.out).1, (HGj.out _ HX_2.out).2.1, (HGj.out _ HX_2.out).2.2.1, (HGj.out _ HX_2.out).2.2.2, HX_2.out⟩) (fun hHeld2 => ?_)
          clear hHeld
          have hHeld := hHeld2
          clear hHeld2 hK K hk HB_2 HX_1
          try simp only [Act.put, List.getElem_toArray, List.getElem_cons_zero, List.getElem_cons_succ, List.setIfInBounds_toArray, List.set_cons_zero, List.set_cons_succ]
          refine wpAnyH_take (i := 22) (v := ?_) rfl (by kernel_rfl) (by kernel_rfl) (by kernel_rfl) (fun _ _ _ h => h) (Or.inl ⟨by kernel_rfl, ?_⟩) (by assumption) ?_
          rotate_left
          · intro w hSw
            (try dsimp only at hSw)
            go_simp
            all_goals (with_reducible rfl)
          try simp only [Act.put, List.getElem_toArray, List.getElem_cons_zero, List.getElem_cons_succ, List.setIfInBounds_toArray, List.set_cons_zero, List.set_cons_succ]
          refine wpAnyH_take (i := 23) (v := ?_) rfl (by kernel_rfl) (by kernel_rfl) (by kernel_rfl) (fun _ _ _ h => h) (Or.inl ⟨by kernel_rfl, ?_⟩) (by assumption) ?_
          rotate_left
          · intro w hSw
            (try dsimp only at hSw)
            go_simp
            all_goals (with_reducible rfl)
          try simp only [Act.put, List.getElem_toArray, List.getElem_cons_zero, List.getElem_cons_succ, List.setIfInBounds_toArray, List.set_cons_zero, List.set_cons_succ]
          refine wpAnyH_done (by kernel_rfl) ?_ _
          clear hHeld
          have HBm := Lib.hid HX_2.out
          obtain ⟨Wm, hWm⟩ : ∃ z, z = v2 := ⟨_, rfl⟩
          subst hWm
          obtain ⟨ca, hca⟩ : ∃ z, max a a' = z := ⟨_, rfl⟩
          obtain ⟨cb, hcb⟩ : ∃ z, max b b' = z := ⟨_, rfl⟩
          have HCA := Lib.hid (show (if a < a' then a' else a) = ca ∧ (if b < b' then b' else b) = cb from ⟨by rw [ite_max, hca], by rw [ite_max, hcb]⟩)
          have HCC := Lib.hid (show Co ca ∧ Co cb from ⟨by rw [← hca]; exact co_max HCi.out.1 HCj.out.1, by rw [← hcb]; exact co_max HCi.out.2.1 HCj.out.2.1⟩)
          have HCM := Lib.hid (And.intro hca hcb)
          clear hca hcb
          go_upto_region 16 with fail
          go_cut [18] (fun tp wx => ∃ (q : Nat) (s0 : Bool) (A0 : Option Addr) (n0 c0 : Nat) (t0 : Bool) (B0 : Option Addr) (m0 d0 : Nat) (s1 : Bool) (A1 : Option Addr) (n1 c1 : Nat) (t1 : Bool) (B1 : Option Addr) (m1 d1 : Nat), tp = .pointer (some ⟨q, 0, none⟩) ∧ P8 33 wx q (.bool s0) (.slice A0 n0 c0) (.bool t0) (.slice B0 m0 d0) (.bool s1) (.slice A1 n1 c1) (.bool t1) (.slice B1 m1 d1) ∧ PF wx s0 A0 n0 c0 t0 B0 m0 d0 ca 1 ∧ PF wx s1 A1 n1 c1 t1 B1 m1 d1 cb 1 ∧ Below WL.heap.size WL wx)
          case first =>
            obtain ⟨v0, hv0⟩ : ∃ z, World.drew Wm = z := ⟨_, rfl⟩
            have HD0 := Lib.hid (show Below Wm.heap.size Wm v0 by rw [← hv0]; exact (Below.refl _ _).drew)
            have HX_0 := Lib.hid (bt HBm.out HD0.out)
            refine wp_region_held_drew (S := (fun w' : World => w'.cell? ⟨G, i * 4, none⟩ = some (.int .i64 a) ∧ w'.cell? ⟨G, i * 4 + 1, none⟩ = some (.int .i64 b) ∧ w'.cell? ⟨G, i * 4 + 2, none⟩ = some (.int .i64 x) ∧ w'.cell? ⟨G, i * 4 + 3, none⟩ = some (.int .i64 y) ∧ w'.cell? ⟨G, j * 4, none⟩ = some (.int .i64 a') ∧ w'.cell? ⟨G, j * 4 + 1, none⟩ = some (.int .i64 b') ∧ w'.cell? ⟨G, j * 4 + 2, none⟩ = some (.int .i64 x') ∧ w'.cell? ⟨G, j * 4 + 3, none⟩ = some (.int .i64 y') ∧ Below WL.heap.size WL w')) (by kernel_rfl) ?_ (fun hHeld => ?_)
            · rw [hv0]
              exact ⟨(HGi.out _ HX_0.out).1, (HGi.out _ HX_0.out).2.1, (HGi.out _ HX_0.out).2.2.1, (HGi.out _ HX_0.out).2.2.2, (HGj.out _ HX_0.out).1, (HGj.out _ HX_0.out).2.1, (HGj.out _ HX_0.out).2.2.1, (HGj.out _ HX_0.out).2.2.2, HX_0.out⟩
            rw [hv0] at hHeld ⊢
            clear hv0 HD0
            refine wpAnyH_take (i := 0) (v := ?_) rfl (by kernel_rfl) (by kernel_rfl) (by kernel_rfl) (fun _ _ _ h => h) (Or.inl ⟨by kernel_rfl, ?_⟩) (by assumption) ?_
            rotate_left
            · intro w hSw
              (try dsimp only at hSw)
              go_simp
              all_goals (with_reducible rfl)
            try simp only [Act.put, List.getElem_toArray, List.getElem_cons_zero, List.setIfInBounds_toArray, List.set_cons_zero, List.set_cons_succ]
            refine wpAnyH_take (i := 1) (v := ?_) rfl (by kernel_rfl) (by kernel_rfl) (by kernel_rfl) (fun _ _ _ h => h) (Or.inl ⟨by kernel_rfl, ?_⟩) (by assumption) ?_
            rotate_left
            · intro w hSw
              (try dsimp only at hSw)
              go_simp
              all_goals (with_reducible rfl)
            try simp only [Act.put, List.getElem_toArray, List.getElem_cons_zero, List.getElem_cons_succ, List.setIfInBounds_toArray, List.set_cons_zero, List.set_cons_succ]
            refine wpAnyH_take (i := 2) (v := ?_) rfl (by kernel_rfl) (by kernel_rfl) (by kernel_rfl) (fun _ _ _ h => h) (Or.inl ⟨by kernel_rfl, ?_⟩) (by assumption) ?_
            rotate_left
            · intro w hSw
              (try dsimp only at hSw)
              go_simp
              all_goals (with_reducible rfl)
            try simp only [Act.put, List.getElem_toArray, List.getElem_cons_zero, List.getElem_cons_succ, List.setIfInBounds_toArray, List.set_cons_zero, List.set_cons_succ]
            refine wpAnyH_take (i := 3) (v := ?_) rfl (by kernel_rfl) (by kernel_rfl) (by kernel_rfl) (fun _ _ _ h => h) (Or.inl ⟨by kernel_rfl, ?_⟩) (by assumption) ?_
            rotate_left
            · intro w hSw
              (try dsimp only at hSw)
              go_simp
              all_goals (with_reducible rfl)
            try simp only [Act.put, List.getElem_toArray, List.getElem_cons_zero, List.getElem_cons_succ, List.setIfInBounds_toArray, List.set_cons_zero, List.set_cons_succ]
            refine wpAnyH_take (i := 4) (v := ?_) rfl (by kernel_rfl) (by kernel_rfl) (by kernel_rfl) (fun _ _ _ h => h) (Or.inl ⟨by kernel_rfl, ?_⟩) (by assumption) ?_
            rotate_left
            · intro w hSw
              (try dsimp only at hSw)
              go_simp
              all_goals (with_reducible rfl)
            try simp only [Act.put, List.getElem_toArray, List.getElem_cons_zero, List.getElem_cons_succ, List.setIfInBounds_toArray, List.set_cons_zero, List.set_cons_succ]
            refine wpAnyH_take (i := 5) (v := ?_) rfl (by kernel_rfl) (by kernel_rfl) (by kernel_rfl) (fun _ _ _ h => h) (Or.inl ⟨by kernel_rfl, ?_⟩) (by assumption) ?_
            rotate_left
            · intro w hSw
              (try dsimp only at hSw)
              go_simp
              all_goals (with_reducible rfl)
            try simp only [Act.put, List.getElem_toArray, List.getElem_cons_zero, List.getElem_cons_succ, List.setIfInBounds_toArray, List.set_cons_zero, List.set_cons_succ]
            refine wpAnyH_take (i := 6) (v := ?_) rfl (by kernel_rfl) (by kernel_rfl) (by kernel_rfl) (fun _ _ _ h => h) (Or.inl ⟨by kernel_rfl, ?_⟩) (by assumption) ?_
            rotate_left
            · intro w hSw
              (try dsimp only at hSw)
              go_simp
              all_goals (with_reducible rfl)
            try simp only [Act.put, List.getElem_toArray, List.getElem_cons_zero, List.getElem_cons_succ, List.setIfInBounds_toArray, List.set_cons_zero, List.set_cons_succ]
            refine wpAnyH_take (i := 7) (v := ?_) rfl (by kernel_rfl) (by kernel_rfl) (by kernel_rfl) (fun _ _ _ h => h) (Or.inl ⟨by kernel_rfl, ?_⟩) (by assumption) ?_
            rotate_left
            · intro w hSw
              (try dsimp only at hSw)
              go_simp
              all_goals (with_reducible rfl)
            try simp only [Act.put, List.getElem_toArray, List.getElem_cons_zero, List.getElem_cons_succ, List.setIfInBounds_toArray, List.set_cons_zero, List.set_cons_succ]
            refine wpAnyH_take (i := 8) (v := ?_) rfl (by kernel_rfl) (by kernel_rfl) (by kernel_rfl) (fun _ _ _ h => h) (Or.inl ⟨by kernel_rfl, ?_⟩) (by assumption) ?_
            rotate_left
            · intro w hSw
              (try dsimp only at hSw)
              go_simp
              all_goals (with_reducible rfl)
            try simp only [Act.put, List.getElem_toArray, List.getElem_cons_zero, List.getElem_cons_succ, List.setIfInBounds_toArray, List.set_cons_zero, List.set_cons_succ]
            refine wpAnyH_take (i := 9) (v := ?_) rfl (by kernel_rfl) (by kernel_rfl) (by kernel_rfl) (fun _ _ _ h => h) (Or.inl ⟨by kernel_rfl, ?_⟩) (by assumption) ?_
            rotate_left
            · intro w hSw
              (try dsimp only at hSw)
              go_simp
              all_goals (with_reducible rfl)
            try simp only [Act.put, List.getElem_toArray, List.getElem_cons_zero, List.getElem_cons_succ, List.setIfInBounds_toArray, List.set_cons_zero, List.set_cons_succ]
            refine wpAnyH_take (i := 10) (v := ?_) rfl (by kernel_rfl) (by kernel_rfl) (by kernel_rfl) (fun _ _ _ h => h) (Or.inl ⟨by kernel_rfl, ?_⟩) (by assumption) ?_
            rotate_left
            · intro w hSw
              (try dsimp only at hSw)
              go_simp
              all_goals (with_reducible rfl)
            try simp only [Act.put, List.getElem_toArray, List.getElem_cons_zero, List.getElem_cons_succ, List.setIfInBounds_toArray, List.set_cons_zero, List.set_cons_succ]
            refine wpAnyH_take (i := 11) (v := ?_) rfl (by kernel_rfl) (by kernel_rfl) (by kernel_rfl) (fun _ _ _ h => h) (Or.inl ⟨by kernel_rfl, ?_⟩) (by assumption) ?_
            rotate_left
            · intro w hSw
              (try dsimp only at hSw)
              go_simp
              all_goals (with_reducible rfl)
            try simp only [Act.put, List.getElem_toArray, List.getElem_cons_zero, List.getElem_cons_succ, List.setIfInBounds_toArray, List.set_cons_zero, List.set_cons_succ]
            refine wpAnyH_take (i := 12) (v := .int .i64 ca) rfl (by kernel_rfl) (by kernel_rfl) (by kernel_rfl) (fun _ _ _ h => h) (Or.inl ⟨by kernel_rfl, ?_⟩) (by assumption) ?_
            · intro w hSw
              (try dsimp only at hSw)
              go_simp
              all_goals (first | exact HCA.out.1 | (rw [HCA.out.1]; with_reducible rfl) | (rw [← HCA.out.1]; simp_all))
            try simp only [Act.put, List.getElem_toArray, List.getElem_cons_zero, List.getElem_cons_succ, List.setIfInBounds_toArray, List.set_cons_zero, List.set_cons_succ]
            refine wpAnyH_take (i := 13) (v := ?_) rfl (by kernel_rfl) (by kernel_rfl) (by kernel_rfl) (fun _ _ _ h => h) (Or.inl ⟨by kernel_rfl, ?_⟩) (by assumption) ?_
            rotate_left
            · intro w hSw
              (try dsimp only at hSw)
              go_simp
              all_goals (with_reducible rfl)
            try simp only [Act.put, List.getElem_toArray, List.getElem_cons_zero, List.getElem_cons_succ, List.setIfInBounds_toArray, List.set_cons_zero, List.set_cons_succ]
            refine wpAnyH_take (i := 14) (v := ?_) rfl (by kernel_rfl) (by kernel_rfl) (by kernel_rfl) (fun _ _ _ h => h) (Or.inl ⟨by kernel_rfl, ?_⟩) (by assumption) ?_
            rotate_left
            · intro w hSw
              (try dsimp only at hSw)
              go_simp
              all_goals (with_reducible rfl)
            try simp only [Act.put, List.getElem_toArray, List.getElem_cons_zero, List.getElem_cons_succ, List.setIfInBounds_toArray, List.set_cons_zero, List.set_cons_succ]
            refine wpAnyH_take (i := 15) (v := ?_) rfl (by kernel_rfl) (by kernel_rfl) (by kernel_rfl) (fun _ _ _ h => h) (Or.inl ⟨by kernel_rfl, ?_⟩) (by assumption) ?_
            rotate_left
            · intro w hSw
              (try dsimp only at hSw)
              go_simp
              all_goals (with_reducible rfl)
            try simp only [Act.put, List.getElem_toArray, List.getElem_cons_zero, List.getElem_cons_succ, List.setIfInBounds_toArray, List.set_cons_zero, List.set_cons_succ]
            refine wpAnyH_take (i := 16) (v := ?_) rfl (by kernel_rfl) (by kernel_rfl) (by kernel_rfl) (fun _ _ _ h => h) (Or.inl ⟨by kernel_rfl, ?_⟩) (by assumption) ?_
            rotate_left
            · intro w hSw
              (try dsimp only at hSw)
              go_simp
              all_goals (with_reducible rfl)
            try simp only [Act.put, List.getElem_toArray, List.getElem_cons_zero, List.getElem_cons_succ, List.setIfInBounds_toArray, List.set_cons_zero, List.set_cons_succ]
            refine wpAnyH_take (i := 17) (v := ?_) rfl (by kernel_rfl) (by kernel_rfl) (by kernel_rfl) (fun _ _ _ h => h) (Or.inl ⟨by kernel_rfl, ?_⟩) (by assumption) ?_
            rotate_left
            · intro w hSw
              (try dsimp only at hSw)
              go_simp
              all_goals (with_reducible rfl)
            try simp only [Act.put, List.getElem_toArray, List.getElem_cons_zero, List.getElem_cons_succ, List.setIfInBounds_toArray, List.set_cons_zero, List.set_cons_succ]
            refine wpAnyH_take (i := 18) (v := ?_) rfl (by kernel_rfl) (by kernel_rfl) (by kernel_rfl) (fun _ _ _ h => h) (Or.inl ⟨by kernel_rfl, ?_⟩) (by assumption) ?_
            rotate_left
            · intro w hSw
              (try dsimp only at hSw)
              go_simp
              all_goals (with_reducible rfl)
            try simp only [Act.put, List.getElem_toArray, List.getElem_cons_zero, List.getElem_cons_succ, List.setIfInBounds_toArray, List.set_cons_zero, List.set_cons_succ]
            refine wpAnyH_take (i := 19) (v := ?_) rfl (by kernel_rfl) (by kernel_rfl) (by kernel_rfl) (fun _ _ _ h => h) (Or.inl ⟨by kernel_rfl, ?_⟩) (by assumption) ?_
            rotate_left
            · intro w hSw
              (try dsimp only at hSw)
              go_simp
              all_goals (with_reducible rfl)
            try simp only [Act.put, List.getElem_toArray, List.getElem_cons_zero, List.getElem_cons_succ, List.setIfInBounds_toArray, List.set_cons_zero, List.set_cons_succ]
            refine wpAnyH_take (i := 20) (v := ?_) rfl (by kernel_rfl) (by kernel_rfl) (by kernel_rfl) (fun _ _ _ h => h) (Or.inl ⟨by kernel_rfl, ?_⟩) (by assumption) ?_
            rotate_left
            · intro w hSw
              (try dsimp only at hSw)
              go_simp
              all_goals (with_reducible rfl)
            try simp only [Act.put, List.getElem_toArray, List.getElem_cons_zero, List.getElem_cons_succ, List.setIfInBounds_toArray, List.set_cons_zero, List.set_cons_succ]
            refine wpAnyH_take (i := 21) (v := ?_) rfl (by kernel_rfl) (by kernel_rfl) (by kernel_rfl) (fun _ _ _ h => h) (Or.inl ⟨by kernel_rfl, ?_⟩) (by assumption) ?_
            rotate_left
            · intro w hSw
              (try dsimp only at hSw)
              go_simp
              all_goals (with_reducible rfl)
            try simp only [Act.put, List.getElem_toArray, List.getElem_cons_zero, List.getElem_cons_succ, List.setIfInBounds_toArray, List.set_cons_zero, List.set_cons_succ]
            refine wpAnyH_take (i := 22) (v := ?_) rfl (by kernel_rfl) (by kernel_rfl) (by kernel_rfl) (fun _ _ _ h => h) (Or.inl ⟨by kernel_rfl, ?_⟩) (by assumption) ?_
            rotate_left
            · intro w hSw
              (try dsimp only at hSw)
              go_simp
              all_goals (with_reducible rfl)
            try simp only [Act.put, List.getElem_toArray, List.getElem_cons_zero, List.getElem_cons_succ, List.setIfInBounds_toArray, List.set_cons_zero, List.set_cons_succ]
            refine wpAnyH_take (i := 23) (v := ?_) rfl (by kernel_rfl) (by kernel_rfl) (by kernel_rfl) (fun _ _ _ h => h) (Or.inl ⟨by kernel_rfl, ?_⟩) (by assumption) ?_
            rotate_left
            · intro w hSw
              (try dsimp only at hSw)
              go_simp
              all_goals (with_reducible rfl)
            try simp only [Act.put, List.getElem_toArray, List.getElem_cons_zero, List.getElem_cons_succ, List.setIfInBounds_toArray, List.set_cons_zero, List.set_cons_succ]
            refine wpAnyH_take (i := 24) (v := ?_) rfl (by kernel_rfl) (by kernel_rfl) (by kernel_rfl) (fun _ _ _ h => h) (Or.inl ⟨by kernel_rfl, ?_⟩) (by assumption) ?_
            rotate_left
            · intro w hSw
              (try dsimp only at hSw)
              go_simp
              all_goals (with_reducible rfl)
            try simp only [Act.put, List.getElem_toArray, List.getElem_cons_zero, List.getElem_cons_succ, List.setIfInBounds_toArray, List.set_cons_zero, List.set_cons_succ]
            refine wpAnyH_take (i := 25) (v := .int .i64 cb) rfl (by kernel_rfl) (by kernel_rfl) (by kernel_rfl) (fun _ _ _ h => h) (Or.inl ⟨by kernel_rfl, ?_⟩) (by assumption) ?_
            · intro w hSw
              (try dsimp only at hSw)
              go_simp
              all_goals (first | exact HCA.out.2 | (rw [HCA.out.2]; with_reducible rfl) | (rw [← HCA.out.2]; simp_all))
            try simp only [Act.put, List.getElem_toArray, List.getElem_cons_zero, List.getElem_cons_succ, List.setIfInBounds_toArray, List.set_cons_zero, List.set_cons_succ]
            refine wpAnyH_take (i := 26) (v := ?_) rfl (by kernel_rfl) (by kernel_rfl) (by kernel_rfl) (fun _ _ _ h => h) (Or.inl ⟨by kernel_rfl, ?_⟩) (by assumption) ?_
            rotate_left
            · intro w hSw
              (try dsimp only at hSw)
              go_simp
              all_goals (with_reducible rfl)
            try simp only [Act.put, List.getElem_toArray, List.getElem_cons_zero, List.getElem_cons_succ, List.setIfInBounds_toArray, List.set_cons_zero, List.set_cons_succ]
            refine wpAnyH_ready (rs := [27, 28]) (by kernel_rfl) (by simp) ?_
            refine AllReadyH.cons rfl (fun K hK => ?_) ?_
            go_simp
            go_at_call 26
            refine (pof_any ca cb v0 (co_wf HCC.out.1) (co_wf HCC.out.2)).mono ?_
            rintro e v1 ⟨s0, A0, n0, c0, t0, B0, m0, d0, s1, A1, n1, c1, t1, B1, m1, d1, rfl, hr1, hr2, hk⟩
            have F0_1 := Lib.hid (hr1)
            have F1_1 := Lib.hid (hr2)
            have HB_1 := Lib.hid hk
            go_wp2_with fail
            have HX_1 := Lib.hid (bt HX_0.out HB_1.out)
            refine hK.out _ _ (⟨(HGi.out _ HX_1.out).1, (HGi.out _ HX_1.out).2.1, (HGi.out _ HX_1.out).2.2.1, (HGi.out _ HX_1.out).2.2.2, (HGj.out _ HX_1.out).1, (HGj.out _ HX_1.out).2.1, (HGj.out _ HX_1.out).2.2.1, (HGj.out _ HX_1.out).2.2.2, HX_1.out⟩) (fun hHeld2 => ?_)
            clear hHeld
            have hHeld := hHeld2
            clear hHeld2 hK K hk HB_1 hr1 hr2 HX_0
            try simp only [Act.put, List.getElem_toArray, List.getElem_cons_zero, List.getElem_cons_succ, List.setIfInBounds_toArray, List.set_cons_zero, List.set_cons_succ]
            refine wpAnyH_ready (rs := [28]) (by kernel_rfl) (by simp) ?_
            refine AllReadyH.cons rfl (fun K hK => ?_) AllReadyH.nil
            go_simp
            have HB_2 := Lib.hid ((Below.refl v1.heap.size v1).alloc (Nat.le_refl _) (.cells #[.bool false, .slice none 0 0, .bool false, .slice none 0 0, .bool false, .slice none 0 0, .bool false, .slice none 0 0] 33))
            have HP_q_2 := Lib.hid (P8.lit v1 33 (.bool false) (.slice none 0 0) (.bool false) (.slice none 0 0) (.bool false) (.slice none 0 0) (.bool false) (.slice none 0 0))
            obtain ⟨v2, hV⟩ : ∃ z, World.alloc v1 (.cells #[.bool false, .slice none 0 0, .bool false, .slice none 0 0, .bool false, .slice none 0 0, .bool false, .slice none 0 0] 33) = z := ⟨_, rfl⟩
            obtain ⟨gq, hg⟩ : ∃ z, v1.heap.size = z := ⟨_, rfl⟩
            rw [hV] at HB_2 HP_q_2  ⊢
            rw [hg] at HP_q_2  ⊢
            have HG_q := Lib.hid (show WL.heap.size ≤ gq by rw [← hg]; exact HX_1.out.size)
            have HX_2 := Lib.hid (bt HX_1.out HB_2.out)
            have F0_2 := Lib.hid ((F0_1.out).new HB_2.out)
            have F1_2 := Lib.hid ((F1_1.out).new HB_2.out)
            refine hK.out _ _ (⟨(HGi.out _ HX_2.out).1, (HGi.out _ HX_2.out).2.1, (HGi.out _ HX_2.out).2.2.1, (HGi.out _ HX_2.out).2.2.2, (HGj.out _ HX_2.out).1, (HGj.out _ HX_2.out).2.1, (HGj.out _ HX_2.out).2.2.1, (HGj.out _ HX_2.out).2.2.2, HX_2.out⟩) (fun hHeld2 => ?_)
            clear hHeld
            have hHeld := hHeld2
            clear hHeld2 hK K hV hg HB_2 HX_1 F0_1 F1_1
            try simp only [Act.put, List.getElem_toArray, List.getElem_cons_zero, List.getElem_cons_succ, List.setIfInBounds_toArray, List.set_cons_zero, List.set_cons_succ]
            refine wpAnyH_ready (rs := [29]) (by kernel_rfl) (by simp) ?_
            refine AllReadyH.cons rfl (fun K hK => ?_) AllReadyH.nil
            obtain ⟨⟨z0, z1, z2, z3⟩, z4, z5, z6, z7⟩ := HP_q_2.out.cells
            have y0 := HP_q_2.out.frozen 0
            have y1 := HP_q_2.out.frozen 1
            have y2 := HP_q_2.out.frozen 2
            have y3 := HP_q_2.out.frozen 3
            have y4 := HP_q_2.out.frozen 4
            have y5 := HP_q_2.out.frozen 5
            have y6 := HP_q_2.out.frozen 6
            have y7 := HP_q_2.out.frozen 7
            have z9 := HP_q_2.out.lt
            go_simp
            obtain ⟨v3, hV⟩ : ∃ z, World.setCell (World.setCell (World.setCell (World.setCell (World.setCell (World.setCell (World.setCell (World.setCell v2 ⟨gq, 0, none⟩ (.bool s0)) ⟨gq, 1, none⟩ (.slice A0 n0 c0)) ⟨gq, 2, none⟩ (.bool t0)) ⟨gq, 3, none⟩ (.slice B0 m0 d0)) ⟨gq, 4, none⟩ (.bool s1)) ⟨gq, 5, none⟩ (.slice A1 n1 c1)) ⟨gq, 6, none⟩ (.bool t1)) ⟨gq, 7, none⟩ (.slice B1 m1 d1) = z := ⟨_, rfl⟩
            rw [hV]
            have HX_3 := Lib.hid (show Below WL.heap.size WL v3 by rw [← hV]; exact below8 HX_2.out (HG_q.out) _ _ _ _ _ _ _ _)
            have F0_3 := Lib.hid (show PF v3 s0 A0 n0 c0 t0 B0 m0 d0 ca 1 by rw [← hV]; exact PF.apart (F0_2.out) (kp8 _ gq _ _ _ _ _ _ _ _) (noW_of HP_q_2.out rfl))
            have F1_3 := Lib.hid (show PF v3 s1 A1 n1 c1 t1 B1 m1 d1 cb 1 by rw [← hV]; exact PF.apart (F1_2.out) (kp8 _ gq _ _ _ _ _ _ _ _) (noW_of HP_q_2.out rfl))
            have HP_q_3 := Lib.hid (show P8 33 v3 gq (.bool s0) (.slice A0 n0 c0) (.bool t0) (.slice B0 m0 d0) (.bool s1) (.slice A1 n1 c1) (.bool t1) (.slice B1 m1 d1) by rw [← hV]; exact HP_q_2.out.all (.bool s0) (.slice A0 n0 c0) (.bool t0) (.slice B0 m0 d0) (.bool s1) (.slice A1 n1 c1) (.bool t1) (.slice B1 m1 d1))
            refine hK.out _ _ (⟨(HGi.out _ HX_3.out).1, (HGi.out _ HX_3.out).2.1, (HGi.out _ HX_3.out).2.2.1, (HGi.out _ HX_3.out).2.2.2, (HGj.out _ HX_3.out).1, (HGj.out _ HX_3.out).2.1, (HGj.out _ HX_3.out).2.2.1, (HGj.out _ HX_3.out).2.2.2, HX_3.out⟩) (fun hHeld2 => ?_)
            clear hHeld
            have hHeld := hHeld2
            clear hHeld2 hK K hV z9 z0 z1 z2 z3 z4 z5 z6 z7 y0 y1 y2 y3 y4 y5 y6 y7 HX_2 F0_2 F1_2 HP_q_2
            try simp only [Act.put, List.getElem_toArray, List.getElem_cons_zero, List.getElem_cons_succ, List.setIfInBounds_toArray, List.set_cons_zero, List.set_cons_succ]
            refine wpAnyH_done (by kernel_rfl) ?_ _
            clear hHeld
            go_wp2_with fail
            go_meet
            exact ⟨gq, s0, A0, n0, c0, t0, B0, m0, d0, s1, A1, n1, c1, t1, B1, m1, d1, rfl, HP_q_3.out, F0_3.out, F1_3.out, HX_3.out⟩
            refine AllReadyH.cons rfl (fun K hK => ?_) AllReadyH.nil
            go_simp
            have HB_4 := Lib.hid ((Below.refl v0.heap.size v0).alloc (Nat.le_refl _) (.cells #[.bool false, .slice none 0 0, .bool false, .slice none 0 0, .bool false, .slice none 0 0, .bool false, .slice none 0 0] 33))
            have HP_q_4 := Lib.hid (P8.lit v0 33 (.bool false) (.slice none 0 0) (.bool false) (.slice none 0 0) (.bool false) (.slice none 0 0) (.bool false) (.slice none 0 0))
            obtain ⟨v4, hV⟩ : ∃ z, World.alloc v0 (.cells #[.bool false, .slice none 0 0, .bool false, .slice none 0 0, .bool false, .slice none 0 0, .bool false, .slice none 0 0] 33) = z := ⟨_, rfl⟩
            obtain ⟨gq, hg⟩ : ∃ z, v0.heap.size = z := ⟨_, rfl⟩
            rw [hV] at HB_4 HP_q_4  ⊢
            rw [hg] at HP_q_4  ⊢
            have HG_q := Lib.hid (show WL.heap.size ≤ gq by rw [← hg]; exact HX_0.out.size)
            have HX_4 := Lib.hid (bt HX_0.out HB_4.out)
            refine hK.out _ _ (⟨(HGi.out _ HX_4.out).1, (HGi.out _ HX_4.out).2.1, (HGi.out _ HX_4.out).2.2.1, (HGi.out _ HX_4.out).2.2.2, (HGj.out _ HX_4.out).1, (HGj.out _ HX_4.out).2.1, (HGj.out _ HX_4.out).2.2.1, (HGj.out _ HX_4.out).2.2.2, HX_4.out⟩) (fun hHeld2 => ?_)
            clear hHeld
            have hHeld := hHeld2
            clear hHeld2 hK K hV hg HB_4 HX_0
            try simp only [Act.put, List.getElem_toArray, List.getElem_cons_zero, List.getElem_cons_succ, List.setIfInBounds_toArray, List.set_cons_zero, List.set_cons_succ]
            refine wpAnyH_ready (rs := [27]) (by kernel_rfl) (by simp) ?_
            refine AllReadyH.cons rfl (fun K hK => ?_) AllReadyH.nil
            go_simp
            go_at_call 26
            refine (pof_any ca cb v4 (co_wf HCC.out.1) (co_wf HCC.out.2)).mono ?_
            rintro e v5 ⟨s0, A0, n0, c0, t0, B0, m0, d0, s1, A1, n1, c1, t1, B1, m1, d1, rfl, hr1, hr2, hk⟩
            have F0_5 := Lib.hid (hr1)
            have F1_5 := Lib.hid (hr2)
            have HB_5 := Lib.hid hk
            go_wp2_with fail
            have HX_5 := Lib.hid (bt HX_4.out HB_5.out)
            have HP_q_5 := Lib.hid (HP_q_4.out.new HB_5.out)
            refine hK.out _ _ (⟨(HGi.out _ HX_5.out).1, (HGi.out _ HX_5.out).2.1, (HGi.out _ HX_5.out).2.2.1, (HGi.out _ HX_5.out).2.2.2, (HGj.out _ HX_5.out).1, (HGj.out _ HX_5.out).2.1, (HGj.out _ HX_5.out).2.2.1, (HGj.out _ HX_5.out).2.2.2, HX_5.out⟩) (fun hHeld2 => ?_)
            clear hHeld
            have hHeld := hHeld2
            clear hHeld2 hK K hk HB_5 hr1 hr2 HX_4 HP_q_4
            try simp only [Act.put, List.getElem_toArray, List.getElem_cons_zero, List.getElem_cons_succ, List.setIfInBounds_toArray, List.set_cons_zero, List.set_cons_succ]
            refine wpAnyH_ready (rs := [29]) (by kernel_rfl) (by simp) ?_
            refine AllReadyH.cons rfl (fun K hK => ?_) AllReadyH.nil
            obtain ⟨⟨z0, z1, z2, z3⟩, z4, z5, z6, z7⟩ := HP_q_5.out.cells
            have y0 := HP_q_5.out.frozen 0
            have y1 := HP_q_5.out.frozen 1
            have y2 := HP_q_5.out.frozen 2
            have y3 := HP_q_5.out.frozen 3
            have y4 := HP_q_5.out.frozen 4
            have y5 := HP_q_5.out.frozen 5
            have y6 := HP_q_5.out.frozen 6
            have y7 := HP_q_5.out.frozen 7
            have z9 := HP_q_5.out.lt
            go_simp
            obtain ⟨v6, hV⟩ : ∃ z, World.setCell (World.setCell (World.setCell (World.setCell (World.setCell (World.setCell (World.setCell (World.setCell v5 ⟨gq, 0, none⟩ (.bool s0)) ⟨gq, 1, none⟩ (.slice A0 n0 c0)) ⟨gq, 2, none⟩ (.bool t0)) ⟨gq, 3, none⟩ (.slice B0 m0 d0)) ⟨gq, 4, none⟩ (.bool s1)) ⟨gq, 5, none⟩ (.slice A1 n1 c1)) ⟨gq, 6, none⟩ (.bool t1)) ⟨gq, 7, none⟩ (.slice B1 m1 d1) = z := ⟨_, rfl⟩
            rw [hV]
            have HX_6 := Lib.hid (show Below WL.heap.size WL v6 by rw [← hV]; exact below8 HX_5.out (HG_q.out) _ _ _ _ _ _ _ _)
            have F0_6 := Lib.hid (show PF v6 s0 A0 n0 c0 t0 B0 m0 d0 ca 1 by rw [← hV]; exact PF.apart (F0_5.out) (kp8 _ gq _ _ _ _ _ _ _ _) (noW_of HP_q_5.out rfl))
            have F1_6 := Lib.hid (show PF v6 s1 A1 n1 c1 t1 B1 m1 d1 cb 1 by rw [← hV]; exact PF.apart (F1_5.out) (kp8 _ gq _ _ _ _ _ _ _ _) (noW_of HP_q_5.out rfl))
            have HP_q_6 := Lib.hid (show P8 33 v6 gq (.bool s0) (.slice A0 n0 c0) (.bool t0) (.slice B0 m0 d0) (.bool s1) (.slice A1 n1 c1) (.bool t1) (.slice B1 m1 d1) by rw [← hV]; exact HP_q_5.out.all (.bool s0) (.slice A0 n0 c0) (.bool t0) (.slice B0 m0 d0) (.bool s1) (.slice A1 n1 c1) (.bool t1) (.slice B1 m1 d1))
            refine hK.out _ _ (⟨(HGi.out _ HX_6.out).1, (HGi.out _ HX_6.out).2.1, (HGi.out _ HX_6.out).2.2.1, (HGi.out _ HX_6.out).2.2.2, (HGj.out _ HX_6.out).1, (HGj.out _ HX_6.out).2.1, (HGj.out _ HX_6.out).2.2.1, (HGj.out _ HX_6.out).2.2.2, HX_6.out⟩) (fun hHeld2 => ?_)
            clear hHeld
            have hHeld := hHeld2
            clear hHeld2 hK K hV z9 z0 z1 z2 z3 z4 z5 z6 z7 y0 y1 y2 y3 y4 y5 y6 y7 HX_5 F0_5 F1_5 HP_q_5
            try simp only [Act.put, List.getElem_toArray, List.getElem_cons_zero, List.getElem_cons_succ, List.setIfInBounds_toArray, List.set_cons_zero, List.set_cons_succ]
            refine wpAnyH_done (by kernel_rfl) ?_ _
            clear hHeld
            go_wp2_with fail
            go_meet
            exact ⟨gq, s0, A0, n0, c0, t0, B0, m0, d0, s1, A1, n1, c1, t1, B1, m1, d1, rfl, HP_q_6.out, F0_6.out, F1_6.out, HX_6.out⟩
          case rest =>
            obtain ⟨q, s0, A0, n0, c0, t0, B0, m0, d0, s1, A1, n1, c1, t1, B1, m1, d1, rfl, hq, h0, h1, hbx⟩ := hcut
            obtain ⟨wx, rfl⟩ := nm_world hbx
            have HQ := Lib.hid hq
            have H0 := Lib.hid h0
            have H1 := Lib.hid h1
            have HBX := Lib.hid hbx
            clear hq h0 h1 hbx HBm HCA
            have HS : Hid (∀ w', Below wx.heap.size wx w' → (fun w' : World => w'.cell? ⟨G, i * 4, none⟩ = some (.int .i64 a) ∧ w'.cell? ⟨G, i * 4 + 1, none⟩ = some (.int .i64 b) ∧ w'.cell? ⟨G, i * 4 + 2, none⟩ = some (.int .i64 x) ∧ w'.cell? ⟨G, i * 4 + 3, none⟩ = some (.int .i64 y) ∧ w'.cell? ⟨G, j * 4, none⟩ = some (.int .i64 a') ∧ w'.cell? ⟨G, j * 4 + 1, none⟩ = some (.int .i64 b') ∧ w'.cell? ⟨G, j * 4 + 2, none⟩ = some (.int .i64 x') ∧ w'.cell? ⟨G, j * 4 + 3, none⟩ = some (.int .i64 y') ∧ w'.cell? ⟨q, 0, none⟩ = some (.bool s0) ∧ w'.cell? ⟨q, 1, none⟩ = some (.slice A0 n0 c0) ∧ w'.cell? ⟨q, 2, none⟩ = some (.bool t0) ∧ w'.cell? ⟨q, 3, none⟩ = some (.slice B0 m0 d0) ∧ w'.cell? ⟨q, 4, none⟩ = some (.bool s1) ∧ w'.cell? ⟨q, 5, none⟩ = some (.slice A1 n1 c1) ∧ w'.cell? ⟨q, 6, none⟩ = some (.bool t1) ∧ w'.cell? ⟨q, 7, none⟩ = some (.slice B1 m1 d1) ∧ Below wx.heap.size wx w') w') := Lib.hid (fun w' hb => ⟨(HGi.out _ (bt HBX.out hb)).1, (HGi.out _ (bt HBX.out hb)).2.1, (HGi.out _ (bt HBX.out hb)).2.2.1, (HGi.out _ (bt HBX.out hb)).2.2.2, (HGj.out _ (bt HBX.out hb)).1, (HGj.out _ (bt HBX.out hb)).2.1, (HGj.out _ (bt HBX.out hb)).2.2.1, (HGj.out _ (bt HBX.out hb)).2.2.2, (HQ.out.new hb).cells.1.1, (HQ.out.new hb).cells.1.2.1, (HQ.out.new hb).cells.1.2.2.1, (HQ.out.new hb).cells.1.2.2.2, (HQ.out.new hb).cells.2.1, (HQ.out.new hb).cells.2.2.1, (HQ.out.new hb).cells.2.2.2.1, (HQ.out.new hb).cells.2.2.2.2, hb⟩)
            have HXX := Lib.hid (Below.refl wx.heap.size wx)
            rcases vb_cases a b x y with hv1 | hv1
            · have HV1 := Lib.hid hv1
              rcases vb_cases a' b' x' y' with hv2 | hv2
              · have HV2 := Lib.hid hv2
                obtain ⟨r4, hr4⟩ : ∃ z, inV a b x y ca 1 cb 1 = z := ⟨_, rfl⟩
                obtain ⟨r5, hr5⟩ : ∃ z, inV a' b' x' y' ca 1 cb 1 = z := ⟨_, rfl⟩
                have HR4 := Lib.hid hr4
                have HR5 := Lib.hid hr5
                have hm := mt_corner hv1 hv2
                rw [HCM.out.1, HCM.out.2, hr4, hr5, HR3.out] at hm
                clear hr4 hr5 hv1 hv2 HR3
                cases r4 with
                | true =>
                  simp only [Bool.true_and] at hm
                  subst hm
                  go_wp2_with fail
                  obtain ⟨v0, hv0⟩ : ∃ z, World.drew wx = z := ⟨_, rfl⟩
                  have HD0 := Lib.hid (show Below wx.heap.size wx v0 by rw [← hv0]; exact (Below.refl _ _).drew)
                  have HX_0 := Lib.hid (bt HXX.out HD0.out)
                  have X_0 := Lib.hid ((H0.out).new HD0.out)
                  have Y_0 := Lib.hid ((H1.out).new HD0.out)
                  refine wp_region_held_drew (S := (fun w' : World => w'.cell? ⟨G, i * 4, none⟩ = some (.int .i64 a) ∧ w'.cell? ⟨G, i * 4 + 1, none⟩ = some (.int .i64 b) ∧ w'.cell? ⟨G, i * 4 + 2, none⟩ = some (.int .i64 x) ∧ w'.cell? ⟨G, i * 4 + 3, none⟩ = some (.int .i64 y) ∧ w'.cell? ⟨G, j * 4, none⟩ = some (.int .i64 a') ∧ w'.cell? ⟨G, j * 4 + 1, none⟩ = some (.int .i64 b') ∧ w'.cell? ⟨G, j * 4 + 2, none⟩ = some (.int .i64 x') ∧ w'.cell? ⟨G, j * 4 + 3, none⟩ = some (.int .i64 y') ∧ w'.cell? ⟨q, 0, none⟩ = some (.bool s0) ∧ w'.cell? ⟨q, 1, none⟩ = some (.slice A0 n0 c0) ∧ w'.cell? ⟨q, 2, none⟩ = some (.bool t0) ∧ w'.cell? ⟨q, 3, none⟩ = some (.slice B0 m0 d0) ∧ w'.cell? ⟨q, 4, none⟩ = some (.bool s1) ∧ w'.cell? ⟨q, 5, none⟩ = some (.slice A1 n1 c1) ∧ w'.cell? ⟨q, 6, none⟩ = some (.bool t1) ∧ w'.cell? ⟨q, 7, none⟩ = some (.slice B1 m1 d1) ∧ Below wx.heap.size wx w')) (by kernel_rfl) ?_ (fun hHeld => ?_)
                  · rw [hv0]
                    exact HS.out _ HX_0.out
                  rw [hv0] at hHeld ⊢
                  clear hv0 HD0
                  refine wpAnyH_take (i := 0) (v := ?_) rfl (by kernel_rfl) (by kernel_rfl) (by kernel_rfl) (fun _ _ _ h => h) (Or.inl ⟨by kernel_rfl, ?_⟩) (by assumption) ?_
                  rotate_left
                  · intro w hSw
                    (try dsimp only at hSw)
                    go_simp
                    all_goals (with_reducible rfl)
                  try simp only [Act.put, List.getElem_toArray, List.getElem_cons_zero, List.setIfInBounds_toArray, List.set_cons_zero, List.set_cons_succ]
                  refine wpAnyH_take (i := 1) (v := ?_) rfl (by kernel_rfl) (by kernel_rfl) (by kernel_rfl) (fun _ _ _ h => h) (Or.inl ⟨by kernel_rfl, ?_⟩) (by assumption) ?_
                  rotate_left
                  · intro w hSw
                    (try dsimp only at hSw)
                    go_simp
                    all_goals (with_reducible rfl)
                  try simp only [Act.put, List.getElem_toArray, List.getElem_cons_zero, List.getElem_cons_succ, List.setIfInBounds_toArray, List.set_cons_zero, List.set_cons_succ]
                  refine wpAnyH_take (i := 2) (v := ?_) rfl (by kernel_rfl) (by kernel_rfl) (by kernel_rfl) (fun _ _ _ h => h) (Or.inl ⟨by kernel_rfl, ?_⟩) (by assumption) ?_
                  rotate_left
                  · intro w hSw
                    (try dsimp only at hSw)
                    go_simp
                    all_goals (with_reducible rfl)
                  try simp only [Act.put, List.getElem_toArray, List.getElem_cons_zero, List.getElem_cons_succ, List.setIfInBounds_toArray, List.set_cons_zero, List.set_cons_succ]
                  refine wpAnyH_take (i := 3) (v := ?_) rfl (by kernel_rfl) (by kernel_rfl) (by kernel_rfl) (fun _ _ _ h => h) (Or.inl ⟨by kernel_rfl, ?_⟩) (by assumption) ?_
                  rotate_left
                  · intro w hSw
                    (try dsimp only at hSw)
                    go_simp
                    all_goals (with_reducible rfl)
                  try simp only [Act.put, List.getElem_toArray, List.getElem_cons_zero, List.getElem_cons_succ, List.setIfInBounds_toArray, List.set_cons_zero, List.set_cons_succ]
                  refine wpAnyH_ready (rs := [4]) (by kernel_rfl) (by simp) ?_
                  refine AllReadyH.cons rfl (fun K hK => ?_) AllReadyH.nil
                  go_simp
                  go_at_call 34
                  refine (validbox_any a b x y v0).mono ?_
                  rw [HV1.out]
                  rintro e v1 ⟨rfl, hk⟩
                  have HB_1 := Lib.hid hk
                  go_wp2_with fail
                  have HX_1 := Lib.hid (bt HX_0.out HB_1.out)
                  have X_1 := Lib.hid ((X_0.out).new HB_1.out)
                  have Y_1 := Lib.hid ((Y_0.out).new HB_1.out)
                  refine hK.out _ _ (HS.out _ HX_1.out) (fun hHeld2 => ?_)
                  clear hHeld
                  have hHeld := hHeld2
                  clear hHeld2 hK K hk HB_1 HX_0 X_0 Y_0
                  try simp only [Act.put, List.getElem_toArray, List.getElem_cons_zero, List.getElem_cons_succ, List.setIfInBounds_toArray, List.set_cons_zero, List.set_cons_succ]
                  refine wpAnyH_take (i := 5) (v := ?_) rfl (by kernel_rfl) (by kernel_rfl) (by kernel_rfl) (fun _ _ _ h => h) (Or.inl ⟨by kernel_rfl, ?_⟩) (by assumption) ?_
                  rotate_left
                  · intro w hSw
                    (try dsimp only at hSw)
                    go_simp
                    all_goals (with_reducible rfl)
                  try simp only [Act.put, List.getElem_toArray, List.getElem_cons_zero, List.getElem_cons_succ, List.setIfInBounds_toArray, List.set_cons_zero, List.set_cons_succ]
                  refine wpAnyH_take (i := 6) (v := ?_) rfl (by kernel_rfl) (by kernel_rfl) (by kernel_rfl) (fun _ _ _ h => h) (Or.inl ⟨by kernel_rfl, ?_⟩) (by assumption) ?_
                  rotate_left
                  · intro w hSw
                    (try dsimp only at hSw)
                    go_simp
                    all_goals (with_reducible rfl)
                  try simp only [Act.put, List.getElem_toArray, List.getElem_cons_zero, List.getElem_cons_succ, List.setIfInBounds_toArray, List.set_cons_zero, List.set_cons_succ]
                  refine wpAnyH_take (i := 7) (v := ?_) rfl (by kernel_rfl) (by kernel_rfl) (by kernel_rfl) (fun _ _ _ h => h) (Or.inl ⟨by kernel_rfl, ?_⟩) (by assumption) ?_
                  rotate_left
                  · intro w hSw
                    (try dsimp only at hSw)
                    go_simp
                    all_goals (with_reducible rfl)
                  try simp only [Act.put, List.getElem_toArray, List.getElem_cons_zero, List.getElem_cons_succ, List.setIfInBounds_toArray, List.set_cons_zero, List.set_cons_succ]
                  refine wpAnyH_take (i := 8) (v := ?_) rfl (by kernel_rfl) (by kernel_rfl) (by kernel_rfl) (fun _ _ _ h => h) (Or.inl ⟨by kernel_rfl, ?_⟩) (by assumption) ?_
                  rotate_left
                  · intro w hSw
                    (try dsimp only at hSw)
                    go_simp
                    all_goals (with_reducible rfl)
                  try simp only [Act.put, List.getElem_toArray, List.getElem_cons_zero, List.getElem_cons_succ, List.setIfInBounds_toArray, List.set_cons_zero, List.set_cons_succ]
                  refine wpAnyH_take (i := 9) (v := ?_) rfl (by kernel_rfl) (by kernel_rfl) (by kernel_rfl) (fun _ _ _ h => h) (Or.inl ⟨by kernel_rfl, ?_⟩) (by assumption) ?_
                  rotate_left
                  · intro w hSw
                    (try dsimp only at hSw)
                    go_simp
                    all_goals (with_reducible rfl)
                  try simp only [Act.put, List.getElem_toArray, List.getElem_cons_zero, List.getElem_cons_succ, List.setIfInBounds_toArray, List.set_cons_zero, List.set_cons_succ]
                  refine wpAnyH_take (i := 10) (v := ?_) rfl (by kernel_rfl) (by kernel_rfl) (by kernel_rfl) (fun _ _ _ h => h) (Or.inl ⟨by kernel_rfl, ?_⟩) (by assumption) ?_
                  rotate_left
                  · intro w hSw
                    (try dsimp only at hSw)
                    go_simp
                    all_goals (with_reducible rfl)
                  try simp only [Act.put, List.getElem_toArray, List.getElem_cons_zero, List.getElem_cons_succ, List.setIfInBounds_toArray, List.set_cons_zero, List.set_cons_succ]
                  refine wpAnyH_ready (rs := [11]) (by kernel_rfl) (by simp) ?_
                  refine AllReadyH.cons rfl (fun K hK => ?_) AllReadyH.nil
                  go_simp
                  go_at_call 34
                  refine (validbox_any a' b' x' y' v1).mono ?_
                  rw [HV2.out]
                  rintro e v2 ⟨rfl, hk⟩
                  have HB_2 := Lib.hid hk
                  go_wp2_with fail
                  have HX_2 := Lib.hid (bt HX_1.out HB_2.out)
                  have X_2 := Lib.hid ((X_1.out).new HB_2.out)
                  have Y_2 := Lib.hid ((Y_1.out).new HB_2.out)
                  refine hK.out _ _ (HS.out _ HX_2.out) (fun hHeld2 => ?_)
                  clear hHeld
                  have hHeld := hHeld2
                  clear hHeld2 hK K hk HB_2 HX_1 X_1 Y_1
                  try simp only [Act.put, List.getElem_toArray, List.getElem_cons_zero, List.getElem_cons_succ, List.setIfInBounds_toArray, List.set_cons_zero, List.set_cons_succ]
                  refine wpAnyH_take (i := 12) (v := ?_) rfl (by kernel_rfl) (by kernel_rfl) (by kernel_rfl) (fun _ _ _ h => h) (Or.inl ⟨by kernel_rfl, ?_⟩) (by assumption) ?_
                  rotate_left
                  · intro w hSw
                    (try dsimp only at hSw)
                    go_simp
                    all_goals (with_reducible rfl)
                  try simp only [Act.put, List.getElem_toArray, List.getElem_cons_zero, List.getElem_cons_succ, List.setIfInBounds_toArray, List.set_cons_zero, List.set_cons_succ]
                  refine wpAnyH_take (i := 13) (v := ?_) rfl (by kernel_rfl) (by kernel_rfl) (by kernel_rfl) (fun _ _ _ h => h) (Or.inl ⟨by kernel_rfl, ?_⟩) (by assumption) ?_
                  rotate_left
                  · intro w hSw
                    (try dsimp only at hSw)
                    go_simp
                    all_goals (with_reducible rfl)
                  try simp only [Act.put, List.getElem_toArray, List.getElem_cons_zero, List.getElem_cons_succ, List.setIfInBounds_toArray, List.set_cons_zero, List.set_cons_succ]
                  refine wpAnyH_take (i := 14) (v := ?_) rfl (by kernel_rfl) (by kernel_rfl) (by kernel_rfl) (fun _ _ _ h => h) (Or.inl ⟨by kernel_rfl, ?_⟩) (by assumption) ?_
                  rotate_left
                  · intro w hSw
                    (try dsimp only at hSw)
                    go_simp
                    all_goals (with_reducible rfl)
                  try simp only [Act.put, List.getElem_toArray, List.getElem_cons_zero, List.getElem_cons_succ, List.setIfInBounds_toArray, List.set_cons_zero, List.set_cons_succ]
                  refine wpAnyH_take (i := 15) (v := ?_) rfl (by kernel_rfl) (by kernel_rfl) (by kernel_rfl) (fun _ _ _ h => h) (Or.inl ⟨by kernel_rfl, ?_⟩) (by assumption) ?_
                  rotate_left
                  · intro w hSw
                    (try dsimp only at hSw)
                    go_simp
                    all_goals (with_reducible rfl)
                  try simp only [Act.put, List.getElem_toArray, List.getElem_cons_zero, List.getElem_cons_succ, List.setIfInBounds_toArray, List.set_cons_zero, List.set_cons_succ]
                  refine wpAnyH_take (i := 16) (v := ?_) rfl (by kernel_rfl) (by kernel_rfl) (by kernel_rfl) (fun _ _ _ h => h) (Or.inl ⟨by kernel_rfl, ?_⟩) (by assumption) ?_
                  rotate_left
                  · intro w hSw
                    (try dsimp only at hSw)
                    go_simp
                    all_goals (with_reducible rfl)
                  try simp only [Act.put, List.getElem_toArray, List.getElem_cons_zero, List.getElem_cons_succ, List.setIfInBounds_toArray, List.set_cons_zero, List.set_cons_succ]
                  refine wpAnyH_take (i := 17) (v := ?_) rfl (by kernel_rfl) (by kernel_rfl) (by kernel_rfl) (fun _ _ _ h => h) (Or.inl ⟨by kernel_rfl, ?_⟩) (by assumption) ?_
                  rotate_left
                  · intro w hSw
                    (try dsimp only at hSw)
                    go_simp
                    all_goals (with_reducible rfl)
                  try simp only [Act.put, List.getElem_toArray, List.getElem_cons_zero, List.getElem_cons_succ, List.setIfInBounds_toArray, List.set_cons_zero, List.set_cons_succ]
                  refine wpAnyH_take (i := 18) (v := ?_) rfl (by kernel_rfl) (by kernel_rfl) (by kernel_rfl) (fun _ _ _ h => h) (Or.inl ⟨by kernel_rfl, ?_⟩) (by assumption) ?_
                  rotate_left
                  · intro w hSw
                    (try dsimp only at hSw)
                    go_simp
                    all_goals (with_reducible rfl)
                  try simp only [Act.put, List.getElem_toArray, List.getElem_cons_zero, List.getElem_cons_succ, List.setIfInBounds_toArray, List.set_cons_zero, List.set_cons_succ]
                  refine wpAnyH_take (i := 19) (v := ?_) rfl (by kernel_rfl) (by kernel_rfl) (by kernel_rfl) (fun _ _ _ h => h) (Or.inl ⟨by kernel_rfl, ?_⟩) (by assumption) ?_
                  rotate_left
                  · intro w hSw
                    (try dsimp only at hSw)
                    go_simp
                    all_goals (with_reducible rfl)
                  try simp only [Act.put, List.getElem_toArray, List.getElem_cons_zero, List.getElem_cons_succ, List.setIfInBounds_toArray, List.set_cons_zero, List.set_cons_succ]
                  refine wpAnyH_take (i := 20) (v := ?_) rfl (by kernel_rfl) (by kernel_rfl) (by kernel_rfl) (fun _ _ _ h => h) (Or.inl ⟨by kernel_rfl, ?_⟩) (by assumption) ?_
                  rotate_left
                  · intro w hSw
                    (try dsimp only at hSw)
                    go_simp
                    all_goals (with_reducible rfl)
                  try simp only [Act.put, List.getElem_toArray, List.getElem_cons_zero, List.getElem_cons_succ, List.setIfInBounds_toArray, List.set_cons_zero, List.set_cons_succ]
                  refine wpAnyH_ready (rs := [21]) (by kernel_rfl) (by simp) ?_
                  refine AllReadyH.cons rfl (fun K hK => ?_) AllReadyH.nil
                  go_simp
                  go_at_call 29
                  refine (in_any a b x y ca 1 cb 1 s0 A0 n0 c0 t0 B0 m0 d0 s1 A1 n1 c1 t1 B1 m1 d1 v2 X_2.out Y_2.out ⟨⟨by decide, i64_lim (co_wf HCC.out.1), one_lim⟩, ⟨by decide, i64_lim (co_wf HCC.out.2), one_lim⟩⟩ (co4_wf HCi.out)).mono ?_
                  rw [HR4.out]
                  rintro e v3 ⟨rfl, hk⟩
                  have HB_3 := Lib.hid hk
                  go_wp2_with fail
                  have HX_3 := Lib.hid (bt HX_2.out HB_3.out)
                  have X_3 := Lib.hid ((X_2.out).new HB_3.out)
                  have Y_3 := Lib.hid ((Y_2.out).new HB_3.out)
                  refine hK.out _ _ (HS.out _ HX_3.out) (fun hHeld2 => ?_)
                  clear hHeld
                  have hHeld := hHeld2
                  clear hHeld2 hK K hk HB_3 HX_2 X_2 Y_2
                  try simp only [Act.put, List.getElem_toArray, List.getElem_cons_zero, List.getElem_cons_succ, List.setIfInBounds_toArray, List.set_cons_zero, List.set_cons_succ]
                  refine wpAnyH_take (i := 22) (v := ?_) rfl (by kernel_rfl) (by kernel_rfl) (by kernel_rfl) (fun _ _ _ h => h) (Or.inl ⟨by kernel_rfl, ?_⟩) (by assumption) ?_
                  rotate_left
                  · intro w hSw
                    (try dsimp only at hSw)
                    go_simp
                    all_goals (with_reducible rfl)
                  try simp only [Act.put, List.getElem_toArray, List.getElem_cons_zero, List.getElem_cons_succ, List.setIfInBounds_toArray, List.set_cons_zero, List.set_cons_succ]
                  refine wpAnyH_take (i := 23) (v := ?_) rfl (by kernel_rfl) (by kernel_rfl) (by kernel_rfl) (fun _ _ _ h => h) (Or.inl ⟨by kernel_rfl, ?_⟩) (by assumption) ?_
                  rotate_left
                  · intro w hSw
                    (try dsimp only at hSw)
                    go_simp
                    all_goals (with_reducible rfl)
                  try simp only [Act.put, List.getElem_toArray, List.getElem_cons_zero, List.getElem_cons_succ, List.setIfInBounds_toArray, List.set_cons_zero, List.set_cons_succ]
                  refine wpAnyH_take (i := 24) (v := ?_) rfl (by kernel_rfl) (by kernel_rfl) (by kernel_rfl) (fun _ _ _ h => h) (Or.inl ⟨by kernel_rfl, ?_⟩) (by assumption) ?_
                  rotate_left
                  · intro w hSw
                    (try dsimp only at hSw)
                    go_simp
                    all_goals (with_reducible rfl)
                  try simp only [Act.put, List.getElem_toArray, List.getElem_cons_zero, List.getElem_cons_succ, List.setIfInBounds_toArray, List.set_cons_zero, List.set_cons_succ]
                  refine wpAnyH_take (i := 25) (v := ?_) rfl (by kernel_rfl) (by kernel_rfl) (by kernel_rfl) (fun _ _ _ h => h) (Or.inl ⟨by kernel_rfl, ?_⟩) (by assumption) ?_
                  rotate_left
                  · intro w hSw
                    (try dsimp only at hSw)
                    go_simp
                    all_goals (with_reducible rfl)
                  try simp only [Act.put, List.getElem_toArray, List.getElem_cons_zero, List.getElem_cons_succ, List.setIfInBounds_toArray, List.set_cons_zero, List.set_cons_succ]
                  refine wpAnyH_take (i := 26) (v := ?_) rfl (by kernel_rfl) (by kernel_rfl) (by kernel_rfl) (fun _ _ _ h => h) (Or.inl ⟨by kernel_rfl, ?_⟩) (by assumption) ?_
                  rotate_left
                  · intro w hSw
                    (try dsimp only at hSw)
                    go_simp
                    all_goals (with_reducible rfl)
                  try simp only [Act.put, List.getElem_toArray, List.getElem_cons_zero, List.getElem_cons_succ, List.setIfInBounds_toArray, List.set_cons_zero, List.set_cons_succ]
                  refine wpAnyH_take (i := 27) (v := ?_) rfl (by kernel_rfl) (by kernel_rfl) (by kernel_rfl) (fun _ _ _ h => h) (Or.inl ⟨by kernel_rfl, ?_⟩) (by assumption) ?_
                  rotate_left
                  · intro w hSw
                    (try dsimp only at hSw)
                    go_simp
                    all_goals (with_reducible rfl)
                  try simp only [Act.put, List.getElem_toArray, List.getElem_cons_zero, List.getElem_cons_succ, List.setIfInBounds_toArray, List.set_cons_zero, List.set_cons_succ]
                  refine wpAnyH_ready (rs := [28]) (by kernel_rfl) (by simp) ?_
                  refine AllReadyH.cons rfl (fun K hK => ?_) AllReadyH.nil
                  go_simp
                  go_at_call 29
                  refine (in_any a' b' x' y' ca 1 cb 1 s0 A0 n0 c0 t0 B0 m0 d0 s1 A1 n1 c1 t1 B1 m1 d1 v3 X_3.out Y_3.out ⟨⟨by decide, i64_lim (co_wf HCC.out.1), one_lim⟩, ⟨by decide, i64_lim (co_wf HCC.out.2), one_lim⟩⟩ (co4_wf HCj.out)).mono ?_
                  rw [HR5.out]
                  rintro e v4 ⟨rfl, hk⟩
                  have HB_4 := Lib.hid hk
                  go_wp2_with fail
                  have HX_4 := Lib.hid (bt HX_3.out HB_4.out)
                  have X_4 := Lib.hid ((X_3.out).new HB_4.out)
                  have Y_4 := Lib.hid ((Y_3.out).new HB_4.out)
                  refine hK.out _ _ (HS.out _ HX_4.out) (fun hHeld2 => ?_)
                  clear hHeld
                  have hHeld := hHeld2
                  clear hHeld2 hK K hk HB_4 HX_3 X_3 Y_3
                  try simp only [Act.put, List.getElem_toArray, List.getElem_cons_zero, List.getElem_cons_succ, List.setIfInBounds_toArray, List.set_cons_zero, List.set_cons_succ]
                  refine wpAnyH_take (i := 29) (v := ?_) rfl (by kernel_rfl) (by kernel_rfl) (by kernel_rfl) (fun _ _ _ h => h) (Or.inl ⟨by kernel_rfl, ?_⟩) (by assumption) ?_
                  rotate_left
                  · intro w hSw
                    (try dsimp only at hSw)
                    go_simp
                    all_goals (with_reducible rfl)
                  try simp only [Act.put, List.getElem_toArray, List.getElem_cons_zero, List.getElem_cons_succ, List.setIfInBounds_toArray, List.set_cons_zero, List.set_cons_succ]
                  refine wpAnyH_take (i := 30) (v := ?_) rfl (by kernel_rfl) (by kernel_rfl) (by kernel_rfl) (fun _ _ _ h => h) (Or.inl ⟨by kernel_rfl, ?_⟩) (by assumption) ?_
                  rotate_left
                  · intro w hSw
                    (try dsimp only at hSw)
                    go_simp
                    all_goals (with_reducible rfl)
                  try simp only [Act.put, List.getElem_toArray, List.getElem_cons_zero, List.getElem_cons_succ, List.setIfInBounds_toArray, List.set_cons_zero, List.set_cons_succ]
                  refine wpAnyH_take (i := 31) (v := ?_) rfl (by kernel_rfl) (by kernel_rfl) (by kernel_rfl) (fun _ _ _ h => h) (Or.inl ⟨by kernel_rfl, ?_⟩) (by assumption) ?_
                  rotate_left
                  · intro w hSw
                    (try dsimp only at hSw)
                    go_simp
                    all_goals (with_reducible rfl)
                  try simp only [Act.put, List.getElem_toArray, List.getElem_cons_zero, List.getElem_cons_succ, List.setIfInBounds_toArray, List.set_cons_zero, List.set_cons_succ]
                  refine wpAnyH_done (by kernel_rfl) ?_ _
                  clear hHeld
                  have HBN := Lib.hid (bt HBX.out HX_4.out)
                  clear HS HQ
                  go_wp2_with fail
                  go_roundw
                  case rel => exact ⟨j + 1, by omega, by go_num, HBN.out⟩
                  case measure => simp [intOf]; omega
                | false =>
                  simp only [Bool.false_and] at hm
                  subst hm
                  go_wp2_with fail
                  obtain ⟨v0, hv0⟩ : ∃ z, World.drew wx = z := ⟨_, rfl⟩
                  have HD0 := Lib.hid (show Below wx.heap.size wx v0 by rw [← hv0]; exact (Below.refl _ _).drew)
                  have HX_0 := Lib.hid (bt HXX.out HD0.out)
                  have X_0 := Lib.hid ((H0.out).new HD0.out)
                  have Y_0 := Lib.hid ((H1.out).new HD0.out)
                  refine wp_region_held_drew (S := (fun w' : World => w'.cell? ⟨G, i * 4, none⟩ = some (.int .i64 a) ∧ w'.cell? ⟨G, i * 4 + 1, none⟩ = some (.int .i64 b) ∧ w'.cell? ⟨G, i * 4 + 2, none⟩ = some (.int .i64 x) ∧ w'.cell? ⟨G, i * 4 + 3, none⟩ = some (.int .i64 y) ∧ w'.cell? ⟨G, j * 4, none⟩ = some (.int .i64 a') ∧ w'.cell? ⟨G, j * 4 + 1, none⟩ = some (.int .i64 b') ∧ w'.cell? ⟨G, j * 4 + 2, none⟩ = some (.int .i64 x') ∧ w'.cell? ⟨G, j * 4 + 3, none⟩ = some (.int .i64 y') ∧ w'.cell? ⟨q, 0, none⟩ = some (.bool s0) ∧ w'.cell? ⟨q, 1, none⟩ = some (.slice A0 n0 c0) ∧ w'.cell? ⟨q, 2, none⟩ = some (.bool t0) ∧ w'.cell? ⟨q, 3, none⟩ = some (.slice B0 m0 d0) ∧ w'.cell? ⟨q, 4, none⟩ = some (.bool s1) ∧ w'.cell? ⟨q, 5, none⟩ = some (.slice A1 n1 c1) ∧ w'.cell? ⟨q, 6, none⟩ = some (.bool t1) ∧ w'.cell? ⟨q, 7, none⟩ = some (.slice B1 m1 d1) ∧ Below wx.heap.size wx w')) (by kernel_rfl) ?_ (fun hHeld => ?_)
                  · rw [hv0]
                    exact HS.out _ HX_0.out
                  rw [hv0] at hHeld ⊢
                  clear hv0 HD0
                  refine wpAnyH_take (i := 0) (v := ?_) rfl (by kernel_rfl) (by kernel_rfl) (by kernel_rfl) (fun _ _ _ h => h) (Or.inl ⟨by kernel_rfl, ?_⟩) (by assumption) ?_
                  rotate_left
                  · intro w hSw
                    (try dsimp only at hSw)
                    go_simp
                    all_goals (with_reducible rfl)
                  try simp only [Act.put, List.getElem_toArray, List.getElem_cons_zero, List.setIfInBounds_toArray, List.set_cons_zero, List.set_cons_succ]
                  refine wpAnyH_take (i := 1) (v := ?_) rfl (by kernel_rfl) (by kernel_rfl) (by kernel_rfl) (fun _ _ _ h => h) (Or.inl ⟨by kernel_rfl, ?_⟩) (by assumption) ?_
                  rotate_left
                  · intro w hSw
                    (try dsimp only at hSw)
                    go_simp
                    all_goals (with_reducible rfl)
                  try simp only [Act.put, List.getElem_toArray, List.getElem_cons_zero, List.getElem_cons_succ, List.setIfInBounds_toArray, List.set_cons_zero, List.set_cons_succ]
                  refine wpAnyH_take (i := 2) (v := ?_) rfl (by kernel_rfl) (by kernel_rfl) (by kernel_rfl) (fun _ _ _ h => h) (Or.inl ⟨by kernel_rfl, ?_⟩) (by assumption) ?_
                  rotate_left
                  · intro w hSw
                    (try dsimp only at hSw)
                    go_simp
                    all_goals (with_reducible rfl)
                  try simp only [Act.put, List.getElem_toArray, List.getElem_cons_zero, List.getElem_cons_succ, List.setIfInBounds_toArray, List.set_cons_zero, List.set_cons_succ]
                  refine wpAnyH_take (i := 3) (v := ?_) rfl (by kernel_rfl) (by kernel_rfl) (by kernel_rfl) (fun _ _ _ h => h) (Or.inl ⟨by kernel_rfl, ?_⟩) (by assumption) ?_
                  rotate_left
                  · intro w hSw
                    (try dsimp only at hSw)
                    go_simp
                    all_goals (with_reducible rfl)
                  try simp only [Act.put, List.getElem_toArray, List.getElem_cons_zero, List.getElem_cons_succ, List.setIfInBounds_toArray, List.set_cons_zero, List.set_cons_succ]
                  refine wpAnyH_ready (rs := [4]) (by kernel_rfl) (by simp) ?_
                  refine AllReadyH.cons rfl (fun K hK => ?_) AllReadyH.nil
                  go_simp
                  go_at_call 34
                  refine (validbox_any a b x y v0).mono ?_
                  rw [HV1.out]
                  rintro e v1 ⟨rfl, hk⟩
                  have HB_1 := Lib.hid hk
                  go_wp2_with fail
                  have HX_1 := Lib.hid (bt HX_0.out HB_1.out)
                  have X_1 := Lib.hid ((X_0.out).new HB_1.out)
                  have Y_1 := Lib.hid ((Y_0.out).new HB_1.out)
                  refine hK.out _ _ (HS.out _ HX_1.out) (fun hHeld2 => ?_)
                  clear hHeld
                  have hHeld := hHeld2
                  clear hHeld2 hK K hk HB_1 HX_0 X_0 Y_0
                  try simp only [Act.put, List.getElem_toArray, List.getElem_cons_zero, List.getElem_cons_succ, List.setIfInBounds_toArray, List.set_cons_zero, List.set_cons_succ]
                  refine wpAnyH_take (i := 5) (v := ?_) rfl (by kernel_rfl) (by kernel_rfl) (by kernel_rfl) (fun _ _ _ h => h) (Or.inl ⟨by kernel_rfl, ?_⟩) (by assumption) ?_
                  rotate_left
                  · intro w hSw
                    (try dsimp only at hSw)
                    go_simp
                    all_goals (with_reducible rfl)
                  try simp only [Act.put, List.getElem_toArray, List.getElem_cons_zero, List.getElem_cons_succ, List.setIfInBounds_toArray, List.set_cons_zero, List.set_cons_succ]
                  refine wpAnyH_take (i := 6) (v := ?_) rfl (by kernel_rfl) (by kernel_rfl) (by kernel_rfl) (fun _ _ _ h => h) (Or.inl ⟨by kernel_rfl, ?_⟩) (by assumption) ?_
                  rotate_left
                  · intro w hSw
                    (try dsimp only at hSw)
                    go_simp
                    all_goals (with_reducible rfl)
                  try simp only [Act.put, List.getElem_toArray, List.getElem_cons_zero, List.getElem_cons_succ, List.setIfInBounds_toArray, List.set_cons_zero, List.set_cons_succ]
                  refine wpAnyH_take (i := 7) (v := ?_) rfl (by kernel_rfl) (by kernel_rfl) (by kernel_rfl) (fun _ _ _ h => h) (Or.inl ⟨by kernel_rfl, ?_⟩) (by assumption) ?_
                  rotate_left
                  · intro w hSw
                    (try dsimp only at hSw)
                    go_simp
                    all_goals (with_reducible rfl)
                  try simp only [Act.put, List.getElem_toArray, List.getElem_cons_zero, List.getElem_cons_succ, List.setIfInBounds_toArray, List.set_cons_zero, List.set_cons_succ]
                  refine wpAnyH_take (i := 8) (v := ?_) rfl (by kernel_rfl) (by kernel_rfl) (by kernel_rfl) (fun _ _ _ h => h) (Or.inl ⟨by kernel_rfl, ?_⟩) (by assumption) ?_
                  rotate_left
                  · intro w hSw
                    (try dsimp only at hSw)
                    go_simp
                    all_goals (with_reducible rfl)
                  try simp only [Act.put, List.getElem_toArray, List.getElem_cons_zero, List.getElem_cons_succ, List.setIfInBounds_toArray, List.set_cons_zero, List.set_cons_succ]
                  refine wpAnyH_take (i := 9) (v := ?_) rfl (by kernel_rfl) (by kernel_rfl) (by kernel_rfl) (fun _ _ _ h => h) (Or.inl ⟨by kernel_rfl, ?_⟩) (by assumption) ?_
                  rotate_left
                  · intro w hSw
                    (try dsimp only at hSw)
                    go_simp
                    all_goals (with_reducible rfl)
                  try simp only [Act.put, List.getElem_toArray, List.getElem_cons_zero, List.getElem_cons_succ, List.setIfInBounds_toArray, List.set_cons_zero, List.set_cons_succ]
                  refine wpAnyH_take (i := 10) (v := ?_) rfl (by kernel_rfl) (by kernel_rfl) (by kernel_rfl) (fun _ _ _ h => h) (Or.inl ⟨by kernel_rfl, ?_⟩) (by assumption) ?_
                  rotate_left
                  · intro w hSw
                    (try dsimp only at hSw)
                    go_simp
                    all_goals (with_reducible rfl)
                  try simp only [Act.put, List.getElem_toArray, List.getElem_cons_zero, List.getElem_cons_succ, List.setIfInBounds_toArray, List.set_cons_zero, List.set_cons_succ]
                  refine wpAnyH_ready (rs := [11]) (by kernel_rfl) (by simp) ?_
                  refine AllReadyH.cons rfl (fun K hK => ?_) AllReadyH.nil
                  go_simp
                  go_at_call 34
                  refine (validbox_any a' b' x' y' v1).mono ?_
                  rw [HV2.out]
                  rintro e v2 ⟨rfl, hk⟩
                  have HB_2 := Lib.hid hk
                  go_wp2_with fail
                  have HX_2 := Lib.hid (bt HX_1.out HB_2.out)
                  have X_2 := Lib.hid ((X_1.out).new HB_2.out)
                  have Y_2 := Lib.hid ((Y_1.out).new HB_2.out)
                  refine hK.out _ _ (HS.out _ HX_2.out) (fun hHeld2 => ?_)
                  clear hHeld
                  have hHeld := hHeld2
                  clear hHeld2 hK K hk HB_2 HX_1 X_1 Y_1
                  try simp only [Act.put, List.getElem_toArray, List.getElem_cons_zero, List.getElem_cons_succ, List.setIfInBounds_toArray, List.set_cons_zero, List.set_cons_succ]
                  refine wpAnyH_take (i := 12) (v := ?_) rfl (by kernel_rfl) (by kernel_rfl) (by kernel_rfl) (fun _ _ _ h => h) (Or.inl ⟨by kernel_rfl, ?_⟩) (by assumption) ?_
                  rotate_left
                  · intro w hSw
                    (try dsimp only at hSw)
                    go_simp
                    all_goals (with_reducible rfl)
                  try simp only [Act.put, List.getElem_toArray, List.getElem_cons_zero, List.getElem_cons_succ, List.setIfInBounds_toArray, List.set_cons_zero, List.set_cons_succ]
                  refine wpAnyH_take (i := 13) (v := ?_) rfl (by kernel_rfl) (by kernel_rfl) (by kernel_rfl) (fun _ _ _ h => h) (Or.inl ⟨by kernel_rfl, ?_⟩) (by assumption) ?_
                  rotate_left
                  · intro w hSw
                    (try dsimp only at hSw)
                    go_simp
                    all_goals (with_reducible rfl)
                  try simp only [Act.put, List.getElem_toArray, List.getElem_cons_zero, List.getElem_cons_succ, List.setIfInBounds_toArray, List.set_cons_zero, List.set_cons_succ]
                  refine wpAnyH_take (i := 14) (v := ?_) rfl (by kernel_rfl) (by kernel_rfl) (by kernel_rfl) (fun _ _ _ h => h) (Or.inl ⟨by kernel_rfl, ?_⟩) (by assumption) ?_
                  rotate_left
                  · intro w hSw
                    (try dsimp only at hSw)
                    go_simp
                    all_goals (with_reducible rfl)
                  try simp only [Act.put, List.getElem_toArray, List.getElem_cons_zero, List.getElem_cons_succ, List.setIfInBounds_toArray, List.set_cons_zero, List.set_cons_succ]
                  refine wpAnyH_take (i := 15) (v := ?_) rfl (by kernel_rfl) (by kernel_rfl) (by kernel_rfl) (fun _ _ _ h => h) (Or.inl ⟨by kernel_rfl, ?_⟩) (by assumption) ?_
                  rotate_left
                  · intro w hSw
                    (try dsimp only at hSw)
                    go_simp
                    all_goals (with_reducible rfl)
                  try simp only [Act.put, List.getElem_toArray, List.getElem_cons_zero, List.getElem_cons_succ, List.setIfInBounds_toArray, List.set_cons_zero, List.set_cons_succ]
                  refine wpAnyH_take (i := 16) (v := ?_) rfl (by kernel_rfl) (by kernel_rfl) (by kernel_rfl) (fun _ _ _ h => h) (Or.inl ⟨by kernel_rfl, ?_⟩) (by assumption) ?_
                  rotate_left
                  · intro w hSw
                    (try dsimp only at hSw)
                    go_simp
                    all_goals (with_reducible rfl)
                  try simp only [Act.put, List.getElem_toArray, List.getElem_cons_zero, List.getElem_cons_succ, List.setIfInBounds_toArray, List.set_cons_zero, List.set_cons_succ]
                  refine wpAnyH_take (i := 17) (v := ?_) rfl (by kernel_rfl) (by kernel_rfl) (by kernel_rfl) (fun _ _ _ h => h) (Or.inl ⟨by kernel_rfl, ?_⟩) (by assumption) ?_
                  rotate_left
                  · intro w hSw
                    (try dsimp only at hSw)
                    go_simp
                    all_goals (with_reducible rfl)
                  try simp only [Act.put, List.getElem_toArray, List.getElem_cons_zero, List.getElem_cons_succ, List.setIfInBounds_toArray, List.set_cons_zero, List.set_cons_succ]
                  refine wpAnyH_take (i := 18) (v := ?_) rfl (by kernel_rfl) (by kernel_rfl) (by kernel_rfl) (fun _ _ _ h => h) (Or.inl ⟨by kernel_rfl, ?_⟩) (by assumption) ?_
                  rotate_left
                  · intro w hSw
                    (try dsimp only at hSw)
                    go_simp
                    all_goals (with_reducible rfl)
                  try simp only [Act.put, List.getElem_toArray, List.getElem_cons_zero, List.getElem_cons_succ, List.setIfInBounds_toArray, List.set_cons_zero, List.set_cons_succ]
                  refine wpAnyH_take (i := 19) (v := ?_) rfl (by kernel_rfl) (by kernel_rfl) (by kernel_rfl) (fun _ _ _ h => h) (Or.inl ⟨by kernel_rfl, ?_⟩) (by assumption) ?_
                  rotate_left
                  · intro w hSw
                    (try dsimp only at hSw)
                    go_simp
                    all_goals (with_reducible rfl)
                  try simp only [Act.put, List.getElem_toArray, List.getElem_cons_zero, List.getElem_cons_succ, List.setIfInBounds_toArray, List.set_cons_zero, List.set_cons_succ]
                  refine wpAnyH_take (i := 20) (v := ?_) rfl (by kernel_rfl) (by kernel_rfl) (by kernel_rfl) (fun _ _ _ h => h) (Or.inl ⟨by kernel_rfl, ?_⟩) (by assumption) ?_
                  rotate_left
                  · intro w hSw
                    (try dsimp only at hSw)
                    go_simp
                    all_goals (with_reducible rfl)
                  try simp only [Act.put, List.getElem_toArray, List.getElem_cons_zero, List.getElem_cons_succ, List.setIfInBounds_toArray, List.set_cons_zero, List.set_cons_succ]
                  refine wpAnyH_ready (rs := [21]) (by kernel_rfl) (by simp) ?_
                  refine AllReadyH.cons rfl (fun K hK => ?_) AllReadyH.nil
                  go_simp
                  go_at_call 29
                  refine (in_any a b x y ca 1 cb 1 s0 A0 n0 c0 t0 B0 m0 d0 s1 A1 n1 c1 t1 B1 m1 d1 v2 X_2.out Y_2.out ⟨⟨by decide, i64_lim (co_wf HCC.out.1), one_lim⟩, ⟨by decide, i64_lim (co_wf HCC.out.2), one_lim⟩⟩ (co4_wf HCi.out)).mono ?_
                  rw [HR4.out]
                  rintro e v3 ⟨rfl, hk⟩
                  have HB_3 := Lib.hid hk
                  go_wp2_with fail
                  have HX_3 := Lib.hid (bt HX_2.out HB_3.out)
                  have X_3 := Lib.hid ((X_2.out).new HB_3.out)
                  have Y_3 := Lib.hid ((Y_2.out).new HB_3.out)
                  refine hK.out _ _ (HS.out _ HX_3.out) (fun hHeld2 => ?_)
                  clear hHeld
                  have hHeld := hHeld2
                  clear hHeld2 hK K hk HB_3 HX_2 X_2 Y_2
                  try simp only [Act.put, List.getElem_toArray, List.getElem_cons_zero, List.getElem_cons_succ, List.setIfInBounds_toArray, List.set_cons_zero, List.set_cons_succ]
                  refine wpAnyH_take (i := 22) (v := ?_) rfl (by kernel_rfl) (by kernel_rfl) (by kernel_rfl) (fun _ _ _ h => h) (Or.inl ⟨by kernel_rfl, ?_⟩) (by assumption) ?_
                  rotate_left
                  · intro w hSw
                    (try dsimp only at hSw)
                    go_simp
                    all_goals (with_reducible rfl)
                  try simp only [Act.put, List.getElem_toArray, List.getElem_cons_zero, List.getElem_cons_succ, List.setIfInBounds_toArray, List.set_cons_zero, List.set_cons_succ]
                  refine wpAnyH_take (i := 23) (v := undef) rfl (by kernel_rfl) (by kernel_rfl) (by kernel_rfl) (fun _ _ _ h => h) (Or.inr ⟨by kernel_rfl, rfl⟩) (by assumption) ?_
                  try simp only [Act.put, List.getElem_toArray, List.getElem_cons_zero, List.getElem_cons_succ, List.setIfInBounds_toArray, List.set_cons_zero, List.set_cons_succ]
                  refine wpAnyH_take (i := 24) (v := undef) rfl (by kernel_rfl) (by kernel_rfl) (by kernel_rfl) (fun _ _ _ h => h) (Or.inr ⟨by kernel_rfl, rfl⟩) (by assumption) ?_
                  try simp only [Act.put, List.getElem_toArray, List.getElem_cons_zero, List.getElem_cons_succ, List.setIfInBounds_toArray, List.set_cons_zero, List.set_cons_succ]
                  refine wpAnyH_take (i := 25) (v := undef) rfl (by kernel_rfl) (by kernel_rfl) (by kernel_rfl) (fun _ _ _ h => h) (Or.inr ⟨by kernel_rfl, rfl⟩) (by assumption) ?_
                  try simp only [Act.put, List.getElem_toArray, List.getElem_cons_zero, List.getElem_cons_succ, List.setIfInBounds_toArray, List.set_cons_zero, List.set_cons_succ]
                  refine wpAnyH_take (i := 26) (v := undef) rfl (by kernel_rfl) (by kernel_rfl) (by kernel_rfl) (fun _ _ _ h => h) (Or.inr ⟨by kernel_rfl, rfl⟩) (by assumption) ?_
                  try simp only [Act.put, List.getElem_toArray, List.getElem_cons_zero, List.getElem_cons_succ, List.setIfInBounds_toArray, List.set_cons_zero, List.set_cons_succ]
                  refine wpAnyH_take (i := 27) (v := undef) rfl (by kernel_rfl) (by kernel_rfl) (by kernel_rfl) (fun _ _ _ h => h) (Or.inr ⟨by kernel_rfl, rfl⟩) (by assumption) ?_
                  try simp only [Act.put, List.getElem_toArray, List.getElem_cons_zero, List.getElem_cons_succ, List.setIfInBounds_toArray, List.set_cons_zero, List.set_cons_succ]
                  refine wpAnyH_take (i := 28) (v := undef) rfl (by kernel_rfl) (by kernel_rfl) (by kernel_rfl) (fun _ _ _ h => h) (Or.inr ⟨by kernel_rfl, rfl⟩) (by assumption) ?_
                  try simp only [Act.put, List.getElem_toArray, List.getElem_cons_zero, List.getElem_cons_succ, List.setIfInBounds_toArray, List.set_cons_zero, List.set_cons_succ]
                  refine wpAnyH_take (i := 29) (v := ?_) rfl (by kernel_rfl) (by kernel_rfl) (by kernel_rfl) (fun _ _ _ h => h) (Or.inl ⟨by kernel_rfl, ?_⟩) (by assumption) ?_
                  rotate_left
                  · intro w hSw
                    (try dsimp only at hSw)
                    go_simp
                    all_goals (with_reducible rfl)
                  try simp only [Act.put, List.getElem_toArray, List.getElem_cons_zero, List.getElem_cons_succ, List.setIfInBounds_toArray, List.set_cons_zero, List.set_cons_succ]
                  refine wpAnyH_take (i := 30) (v := ?_) rfl (by kernel_rfl) (by kernel_rfl) (by kernel_rfl) (fun _ _ _ h => h) (Or.inl ⟨by kernel_rfl, ?_⟩) (by assumption) ?_
                  rotate_left
                  · intro w hSw
                    (try dsimp only at hSw)
                    go_simp
                    all_goals (with_reducible rfl)
                  try simp only [Act.put, List.getElem_toArray, List.getElem_cons_zero, List.getElem_cons_succ, List.setIfInBounds_toArray, List.set_cons_zero, List.set_cons_succ]
                  refine wpAnyH_take (i := 31) (v := ?_) rfl (by kernel_rfl) (by kernel_rfl) (by kernel_rfl) (fun _ _ _ h => h) (Or.inl ⟨by kernel_rfl, ?_⟩) (by assumption) ?_
                  rotate_left
                  · intro w hSw
                    (try dsimp only at hSw)
                    go_simp
                    all_goals (with_reducible rfl)
                  try simp only [Act.put, List.getElem_toArray, List.getElem_cons_zero, List.getElem_cons_succ, List.setIfInBounds_toArray, List.set_cons_zero, List.set_cons_succ]
                  refine wpAnyH_done (by kernel_rfl) ?_ _
                  clear hHeld
                  have HBN := Lib.hid (bt HBX.out HX_3.out)
                  clear HS HQ
                  go_wp2_with fail
                  go_roundw
                  case rel => exact ⟨j + 1, by omega, by go_num, HBN.out⟩
                  case measure => simp [intOf]; omega
              · have HV2 := Lib.hid hv2
                clear hv1 hv2
                go_wp2_with fail
                obtain ⟨v0, hv0⟩ : ∃ z, World.drew wx = z := ⟨_, rfl⟩
                have HD0 := Lib.hid (show Below wx.heap.size wx v0 by rw [← hv0]; exact (Below.refl _ _).drew)
                have HX_0 := Lib.hid (bt HXX.out HD0.out)
                have X_0 := Lib.hid ((H0.out).new HD0.out)
                have Y_0 := Lib.hid ((H1.out).new HD0.out)
                refine wp_region_held_drew (S := (fun w' : World => w'.cell? ⟨G, i * 4, none⟩ = some (.int .i64 a) ∧ w'.cell? ⟨G, i * 4 + 1, none⟩ = some (.int .i64 b) ∧ w'.cell? ⟨G, i * 4 + 2, none⟩ = some (.int .i64 x) ∧ w'.cell? ⟨G, i * 4 + 3, none⟩ = some (.int .i64 y) ∧ w'.cell? ⟨G, j * 4, none⟩ = some (.int .i64 a') ∧ w'.cell? ⟨G, j * 4 + 1, none⟩ = some (.int .i64 b') ∧ w'.cell? ⟨G, j * 4 + 2, none⟩ = some (.int .i64 x') ∧ w'.cell? ⟨G, j * 4 + 3, none⟩ = some (.int .i64 y') ∧ w'.cell? ⟨q, 0, none⟩ = some (.bool s0) ∧ w'.cell? ⟨q, 1, none⟩ = some (.slice A0 n0 c0) ∧ w'.cell? ⟨q, 2, none⟩ = some (.bool t0) ∧ w'.cell? ⟨q, 3, none⟩ = some (.slice B0 m0 d0) ∧ w'.cell? ⟨q, 4, none⟩ = some (.bool s1) ∧ w'.cell? ⟨q, 5, none⟩ = some (.slice A1 n1 c1) ∧ w'.cell? ⟨q, 6, none⟩ = some (.bool t1) ∧ w'.cell? ⟨q, 7, none⟩ = some (.slice B1 m1 d1) ∧ Below wx.heap.size wx w')) (by kernel_rfl) ?_ (fun hHeld => ?_)
                · rw [hv0]
                  exact HS.out _ HX_0.out
                rw [hv0] at hHeld ⊢
                clear hv0 HD0
                refine wpAnyH_take (i := 0) (v := ?_) rfl (by kernel_rfl) (by kernel_rfl) (by kernel_rfl) (fun _ _ _ h => h) (Or.inl ⟨by kernel_rfl, ?_⟩) (by assumption) ?_
                rotate_left
                · intro w hSw
                  (try dsimp only at hSw)
                  go_simp
                  all_goals (with_reducible rfl)
                try simp only [Act.put, List.getElem_toArray, List.getElem_cons_zero, List.setIfInBounds_toArray, List.set_cons_zero, List.set_cons_succ]
                refine wpAnyH_take (i := 1) (v := ?_) rfl (by kernel_rfl) (by kernel_rfl) (by kernel_rfl) (fun _ _ _ h => h) (Or.inl ⟨by kernel_rfl, ?_⟩) (by assumption) ?_
                rotate_left
                · intro w hSw
                  (try dsimp only at hSw)
                  go_simp
                  all_goals (with_reducible rfl)
                try simp only [Act.put, List.getElem_toArray, List.getElem_cons_zero, List.getElem_cons_succ, List.setIfInBounds_toArray, List.set_cons_zero, List.set_cons_succ]
                refine wpAnyH_take (i := 2) (v := ?_) rfl (by kernel_rfl) (by kernel_rfl) (by kernel_rfl) (fun _ _ _ h => h) (Or.inl ⟨by kernel_rfl, ?_⟩) (by assumption) ?_
                rotate_left
                · intro w hSw
                  (try dsimp only at hSw)
                  go_simp
                  all_goals (with_reducible rfl)
                try simp only [Act.put, List.getElem_toArray, List.getElem_cons_zero, List.getElem_cons_succ, List.setIfInBounds_toArray, List.set_cons_zero, List.set_cons_succ]
                refine wpAnyH_take (i := 3) (v := ?_) rfl (by kernel_rfl) (by kernel_rfl) (by kernel_rfl) (fun _ _ _ h => h) (Or.inl ⟨by kernel_rfl, ?_⟩) (by assumption) ?_
                rotate_left
                · intro w hSw
                  (try dsimp only at hSw)
                  go_simp
                  all_goals (with_reducible rfl)
                try simp only [Act.put, List.getElem_toArray, List.getElem_cons_zero, List.getElem_cons_succ, List.setIfInBounds_toArray, List.set_cons_zero, List.set_cons_succ]
                refine wpAnyH_ready (rs := [4]) (by kernel_rfl) (by simp) ?_
                refine AllReadyH.cons rfl (fun K hK => ?_) AllReadyH.nil
                go_simp
                go_at_call 34
                refine (validbox_any a b x y v0).mono ?_
                rw [HV1.out]
                rintro e v1 ⟨rfl, hk⟩
                have HB_1 := Lib.hid hk
                go_wp2_with fail
                have HX_1 := Lib.hid (bt HX_0.out HB_1.out)
                have X_1 := Lib.hid ((X_0.out).new HB_1.out)
                have Y_1 := Lib.hid ((Y_0.out).new HB_1.out)
                refine hK.out _ _ (HS.out _ HX_1.out) (fun hHeld2 => ?_)
                clear hHeld
                have hHeld := hHeld2
                clear hHeld2 hK K hk HB_1 HX_0 X_0 Y_0
                try simp only [Act.put, List.getElem_toArray, List.getElem_cons_zero, List.getElem_cons_succ, List.setIfInBounds_toArray, List.set_cons_zero, List.set_cons_succ]
                refine wpAnyH_take (i := 5) (v := ?_) rfl (by kernel_rfl) (by kernel_rfl) (by kernel_rfl) (fun _ _ _ h => h) (Or.inl ⟨by kernel_rfl, ?_⟩) (by assumption) ?_
                rotate_left
                · intro w hSw
                  (try dsimp only at hSw)
                  go_simp
                  all_goals (with_reducible rfl)
                try simp only [Act.put, List.getElem_toArray, List.getElem_cons_zero, List.getElem_cons_succ, List.setIfInBounds_toArray, List.set_cons_zero, List.set_cons_succ]
                refine wpAnyH_take (i := 6) (v := ?_) rfl (by kernel_rfl) (by kernel_rfl) (by kernel_rfl) (fun _ _ _ h => h) (Or.inl ⟨by kernel_rfl, ?_⟩) (by assumption) ?_
                rotate_left
                · intro w hSw
                  (try dsimp only at hSw)
                  go_simp
                  all_goals (with_reducible rfl)
                try simp only [Act.put, List.getElem_toArray, List.getElem_cons_zero, List.getElem_cons_succ, List.setIfInBounds_toArray, List.set_cons_zero, List.set_cons_succ]
                refine wpAnyH_take (i := 7) (v := ?_) rfl (by kernel_rfl) (by kernel_rfl) (by kernel_rfl) (fun _ _ _ h => h) (Or.inl ⟨by kernel_rfl, ?_⟩) (by assumption) ?_
                rotate_left
                · intro w hSw
                  (try dsimp only at hSw)
                  go_simp
                  all_goals (with_reducible rfl)
                try simp only [Act.put, List.getElem_toArray, List.getElem_cons_zero, List.getElem_cons_succ, List.setIfInBounds_toArray, List.set_cons_zero, List.set_cons_succ]
                refine wpAnyH_take (i := 8) (v := ?_) rfl (by kernel_rfl) (by kernel_rfl) (by kernel_rfl) (fun _ _ _ h => h) (Or.inl ⟨by kernel_rfl, ?_⟩) (by assumption) ?_
                rotate_left
                · intro w hSw
                  (try dsimp only at hSw)
                  go_simp
                  all_goals (with_reducible rfl)
                try simp only [Act.put, List.getElem_toArray, List.getElem_cons_zero, List.getElem_cons_succ, List.setIfInBounds_toArray, List.set_cons_zero, List.set_cons_succ]
                refine wpAnyH_take (i := 9) (v := ?_) rfl (by kernel_rfl) (by kernel_rfl) (by kernel_rfl) (fun _ _ _ h => h) (Or.inl ⟨by kernel_rfl, ?_⟩) (by assumption) ?_
                rotate_left
                · intro w hSw
                  (try dsimp only at hSw)
                  go_simp
                  all_goals (with_reducible rfl)
                try simp only [Act.put, List.getElem_toArray, List.getElem_cons_zero, List.getElem_cons_succ, List.setIfInBounds_toArray, List.set_cons_zero, List.set_cons_succ]
                refine wpAnyH_take (i := 10) (v := ?_) rfl (by kernel_rfl) (by kernel_rfl) (by kernel_rfl) (fun _ _ _ h => h) (Or.inl ⟨by kernel_rfl, ?_⟩) (by assumption) ?_
                rotate_left
                · intro w hSw
                  (try dsimp only at hSw)
                  go_simp
                  all_goals (with_reducible rfl)
                try simp only [Act.put, List.getElem_toArray, List.getElem_cons_zero, List.getElem_cons_succ, List.setIfInBounds_toArray, List.set_cons_zero, List.set_cons_succ]
                refine wpAnyH_ready (rs := [11]) (by kernel_rfl) (by simp) ?_
                refine AllReadyH.cons rfl (fun K hK => ?_) AllReadyH.nil
                go_simp
                go_at_call 34
                refine (validbox_any a' b' x' y' v1).mono ?_
                rw [HV2.out]
                rintro e v2 ⟨rfl, hk⟩
                have HB_2 := Lib.hid hk
                go_wp2_with fail
                have HX_2 := Lib.hid (bt HX_1.out HB_2.out)
                have X_2 := Lib.hid ((X_1.out).new HB_2.out)
                have Y_2 := Lib.hid ((Y_1.out).new HB_2.out)
                refine hK.out _ _ (HS.out _ HX_2.out) (fun hHeld2 => ?_)
                clear hHeld
                have hHeld := hHeld2
                clear hHeld2 hK K hk HB_2 HX_1 X_1 Y_1
                try simp only [Act.put, List.getElem_toArray, List.getElem_cons_zero, List.getElem_cons_succ, List.setIfInBounds_toArray, List.set_cons_zero, List.set_cons_succ]
                refine wpAnyH_take (i := 12) (v := ?_) rfl (by kernel_rfl) (by kernel_rfl) (by kernel_rfl) (fun _ _ _ h => h) (Or.inl ⟨by kernel_rfl, ?_⟩) (by assumption) ?_
                rotate_left
                · intro w hSw
                  (try dsimp only at hSw)
                  go_simp
                  all_goals (with_reducible rfl)
                try simp only [Act.put, List.getElem_toArray, List.getElem_cons_zero, List.getElem_cons_succ, List.setIfInBounds_toArray, List.set_cons_zero, List.set_cons_succ]
                refine wpAnyH_take (i := 13) (v := ?_) rfl (by kernel_rfl) (by kernel_rfl) (by kernel_rfl) (fun _ _ _ h => h) (Or.inl ⟨by kernel_rfl, ?_⟩) (by assumption) ?_
                rotate_left
                · intro w hSw
                  (try dsimp only at hSw)
                  go_simp
                  all_goals (with_reducible rfl)
                try simp only [Act.put, List.getElem_toArray, List.getElem_cons_zero, List.getElem_cons_succ, List.setIfInBounds_toArray, List.set_cons_zero, List.set_cons_succ]
                refine wpAnyH_take (i := 14) (v := ?_) rfl (by kernel_rfl) (by kernel_rfl) (by kernel_rfl) (fun _ _ _ h => h) (Or.inl ⟨by kernel_rfl, ?_⟩) (by assumption) ?_
                rotate_left
                · intro w hSw
                  (try dsimp only at hSw)
                  go_simp
                  all_goals (with_reducible rfl)
                try simp only [Act.put, List.getElem_toArray, List.getElem_cons_zero, List.getElem_cons_succ, List.setIfInBounds_toArray, List.set_cons_zero, List.set_cons_succ]
                refine wpAnyH_take (i := 15) (v := undef) rfl (by kernel_rfl) (by kernel_rfl) (by kernel_rfl) (fun _ _ _ h => h) (Or.inr ⟨by kernel_rfl, rfl⟩) (by assumption) ?_
                try simp only [Act.put, List.getElem_toArray, List.getElem_cons_zero, List.getElem_cons_succ, List.setIfInBounds_toArray, List.set_cons_zero, List.set_cons_succ]
                refine wpAnyH_take (i := 16) (v := undef) rfl (by kernel_rfl) (by kernel_rfl) (by kernel_rfl) (fun _ _ _ h => h) (Or.inr ⟨by kernel_rfl, rfl⟩) (by assumption) ?_
                try simp only [Act.put, List.getElem_toArray, List.getElem_cons_zero, List.getElem_cons_succ, List.setIfInBounds_toArray, List.set_cons_zero, List.set_cons_succ]
                refine wpAnyH_take (i := 17) (v := undef) rfl (by kernel_rfl) (by kernel_rfl) (by kernel_rfl) (fun _ _ _ h => h) (Or.inr ⟨by kernel_rfl, rfl⟩) (by assumption) ?_
                try simp only [Act.put, List.getElem_toArray, List.getElem_cons_zero, List.getElem_cons_succ, List.setIfInBounds_toArray, List.set_cons_zero, List.set_cons_succ]
                refine wpAnyH_take (i := 18) (v := undef) rfl (by kernel_rfl) (by kernel_rfl) (by kernel_rfl) (fun _ _ _ h => h) (Or.inr ⟨by kernel_rfl, rfl⟩) (by assumption) ?_
                try simp only [Act.put, List.getElem_toArray, List.getElem_cons_zero, List.getElem_cons_succ, List.setIfInBounds_toArray, List.set_cons_zero, List.set_cons_succ]
                refine wpAnyH_take (i := 19) (v := undef) rfl (by kernel_rfl) (by kernel_rfl) (by kernel_rfl) (fun _ _ _ h => h) (Or.inr ⟨by kernel_rfl, rfl⟩) (by assumption) ?_
                try simp only [Act.put, List.getElem_toArray, List.getElem_cons_zero, List.getElem_cons_succ, List.setIfInBounds_toArray, List.set_cons_zero, List.set_cons_succ]
                refine wpAnyH_take (i := 20) (v := undef) rfl (by kernel_rfl) (by kernel_rfl) (by kernel_rfl) (fun _ _ _ h => h) (Or.inr ⟨by kernel_rfl, rfl⟩) (by assumption) ?_
                try simp only [Act.put, List.getElem_toArray, List.getElem_cons_zero, List.getElem_cons_succ, List.setIfInBounds_toArray, List.set_cons_zero, List.set_cons_succ]
                refine wpAnyH_take (i := 21) (v := undef) rfl (by kernel_rfl) (by kernel_rfl) (by kernel_rfl) (fun _ _ _ h => h) (Or.inr ⟨by kernel_rfl, rfl⟩) (by assumption) ?_
                try simp only [Act.put, List.getElem_toArray, List.getElem_cons_zero, List.getElem_cons_succ, List.setIfInBounds_toArray, List.set_cons_zero, List.set_cons_succ]
                refine wpAnyH_take (i := 22) (v := undef) rfl (by kernel_rfl) (by kernel_rfl) (by kernel_rfl) (fun _ _ _ h => h) (Or.inr ⟨by kernel_rfl, rfl⟩) (by assumption) ?_
                try simp only [Act.put, List.getElem_toArray, List.getElem_cons_zero, List.getElem_cons_succ, List.setIfInBounds_toArray, List.set_cons_zero, List.set_cons_succ]
                refine wpAnyH_take (i := 23) (v := undef) rfl (by kernel_rfl) (by kernel_rfl) (by kernel_rfl) (fun _ _ _ h => h) (Or.inr ⟨by kernel_rfl, rfl⟩) (by assumption) ?_
                try simp only [Act.put, List.getElem_toArray, List.getElem_cons_zero, List.getElem_cons_succ, List.setIfInBounds_toArray, List.set_cons_zero, List.set_cons_succ]
                refine wpAnyH_take (i := 24) (v := undef) rfl (by kernel_rfl) (by kernel_rfl) (by kernel_rfl) (fun _ _ _ h => h) (Or.inr ⟨by kernel_rfl, rfl⟩) (by assumption) ?_
                try simp only [Act.put, List.getElem_toArray, List.getElem_cons_zero, List.getElem_cons_succ, List.setIfInBounds_toArray, List.set_cons_zero, List.set_cons_succ]
                refine wpAnyH_take (i := 25) (v := undef) rfl (by kernel_rfl) (by kernel_rfl) (by kernel_rfl) (fun _ _ _ h => h) (Or.inr ⟨by kernel_rfl, rfl⟩) (by assumption) ?_
                try simp only [Act.put, List.getElem_toArray, List.getElem_cons_zero, List.getElem_cons_succ, List.setIfInBounds_toArray, List.set_cons_zero, List.set_cons_succ]
                refine wpAnyH_take (i := 26) (v := undef) rfl (by kernel_rfl) (by kernel_rfl) (by kernel_rfl) (fun _ _ _ h => h) (Or.inr ⟨by kernel_rfl, rfl⟩) (by assumption) ?_
                try simp only [Act.put, List.getElem_toArray, List.getElem_cons_zero, List.getElem_cons_succ, List.setIfInBounds_toArray, List.set_cons_zero, List.set_cons_succ]
                refine wpAnyH_take (i := 27) (v := undef) rfl (by kernel_rfl) (by kernel_rfl) (by kernel_rfl) (fun _ _ _ h => h) (Or.inr ⟨by kernel_rfl, rfl⟩) (by assumption) ?_
                try simp only [Act.put, List.getElem_toArray, List.getElem_cons_zero, List.getElem_cons_succ, List.setIfInBounds_toArray, List.set_cons_zero, List.set_cons_succ]
                refine wpAnyH_take (i := 28) (v := undef) rfl (by kernel_rfl) (by kernel_rfl) (by kernel_rfl) (fun _ _ _ h => h) (Or.inr ⟨by kernel_rfl, rfl⟩) (by assumption) ?_
                try simp only [Act.put, List.getElem_toArray, List.getElem_cons_zero, List.getElem_cons_succ, List.setIfInBounds_toArray, List.set_cons_zero, List.set_cons_succ]
                refine wpAnyH_take (i := 29) (v := undef) rfl (by kernel_rfl) (by kernel_rfl) (by kernel_rfl) (fun _ _ _ h => h) (Or.inr ⟨by kernel_rfl, rfl⟩) (by assumption) ?_
                try simp only [Act.put, List.getElem_toArray, List.getElem_cons_zero, List.getElem_cons_succ, List.setIfInBounds_toArray, List.set_cons_zero, List.set_cons_succ]
                refine wpAnyH_take (i := 30) (v := undef) rfl (by kernel_rfl) (by kernel_rfl) (by kernel_rfl) (fun _ _ _ h => h) (Or.inr ⟨by kernel_rfl, rfl⟩) (by assumption) ?_
                try simp only [Act.put, List.getElem_toArray, List.getElem_cons_zero, List.getElem_cons_succ, List.setIfInBounds_toArray, List.set_cons_zero, List.set_cons_succ]
                refine wpAnyH_take (i := 31) (v := ?_) rfl (by kernel_rfl) (by kernel_rfl) (by kernel_rfl) (fun _ _ _ h => h) (Or.inl ⟨by kernel_rfl, ?_⟩) (by assumption) ?_
                rotate_left
                · intro w hSw
                  (try dsimp only at hSw)
                  go_simp
                  all_goals (with_reducible rfl)
                try simp only [Act.put, List.getElem_toArray, List.getElem_cons_zero, List.getElem_cons_succ, List.setIfInBounds_toArray, List.set_cons_zero, List.set_cons_succ]
                refine wpAnyH_done (by kernel_rfl) ?_ _
                clear hHeld
                have HBN := Lib.hid (bt HBX.out HX_2.out)
                clear HS HQ
                go_wp2_with fail
                go_roundw
                case rel => exact ⟨j + 1, by omega, by go_num, HBN.out⟩
                case measure => simp [intOf]; omega
            · have HV1 := Lib.hid hv1
              clear hv1
              go_wp2_with fail
              obtain ⟨v0, hv0⟩ : ∃ z, World.drew wx = z := ⟨_, rfl⟩
              have HD0 := Lib.hid (show Below wx.heap.size wx v0 by rw [← hv0]; exact (Below.refl _ _).drew)
              have HX_0 := Lib.hid (bt HXX.out HD0.out)
              have X_0 := Lib.hid ((H0.out).new HD0.out)
              have Y_0 := Lib.hid ((H1.out).new HD0.out)
              refine wp_region_held_drew (S := (fun w' : World => w'.cell? ⟨G, i * 4, none⟩ = some (.int .i64 a) ∧ w'.cell? ⟨G, i * 4 + 1, none⟩ = some (.int .i64 b) ∧ w'.cell? ⟨G, i * 4 + 2, none⟩ = some (.int .i64 x) ∧ w'.cell? ⟨G, i * 4 + 3, none⟩ = some (.int .i64 y) ∧ w'.cell? ⟨G, j * 4, none⟩ = some (.int .i64 a') ∧ w'.cell? ⟨G, j * 4 + 1, none⟩ = some (.int .i64 b') ∧ w'.cell? ⟨G, j * 4 + 2, none⟩ = some (.int .i64 x') ∧ w'.cell? ⟨G, j * 4 + 3, none⟩ = some (.int .i64 y') ∧ w'.cell? ⟨q, 0, none⟩ = some (.bool s0) ∧ w'.cell? ⟨q, 1, none⟩ = some (.slice A0 n0 c0) ∧ w'.cell? ⟨q, 2, none⟩ = some (.bool t0) ∧ w'.cell? ⟨q, 3, none⟩ = some (.slice B0 m0 d0) ∧ w'.cell? ⟨q, 4, none⟩ = some (.bool s1) ∧ w'.cell? ⟨q, 5, none⟩ = some (.slice A1 n1 c1) ∧ w'.cell? ⟨q, 6, none⟩ = some (.bool t1) ∧ w'.cell? ⟨q, 7, none⟩ = some (.slice B1 m1 d1) ∧ Below wx.heap.size wx w')) (by kernel_rfl) ?_ (fun hHeld => ?_)
              · rw [hv0]
                exact HS.out _ HX_0.out
              rw [hv0] at hHeld ⊢
              clear hv0 HD0
              refine wpAnyH_take (i := 0) (v := ?_) rfl (by kernel_rfl) (by kernel_rfl) (by kernel_rfl) (fun _ _ _ h => h) (Or.inl ⟨by kernel_rfl, ?_⟩) (by assumption) ?_
              rotate_left
              · intro w hSw
                (try dsimp only at hSw)
                go_simp
                all_goals (with_reducible rfl)
              try simp only [Act.put, List.getElem_toArray, List.getElem_cons_zero, List.setIfInBounds_toArray, List.set_cons_zero, List.set_cons_succ]
              refine wpAnyH_take (i := 1) (v := ?_) rfl (by kernel_rfl) (by kernel_rfl) (by kernel_rfl) (fun _ _ _ h => h) (Or.inl ⟨by kernel_rfl, ?_⟩) (by assumption) ?_
              rotate_left
              · intro w hSw
                (try dsimp only at hSw)
                go_simp
                all_goals (with_reducible rfl)
              try simp only [Act.put, List.getElem_toArray, List.getElem_cons_zero, List.getElem_cons_succ, List.setIfInBounds_toArray, List.set_cons_zero, List.set_cons_succ]
              refine wpAnyH_take (i := 2) (v := ?_) rfl (by kernel_rfl) (by kernel_rfl) (by kernel_rfl) (fun _ _ _ h => h) (Or.inl ⟨by kernel_rfl, ?_⟩) (by assumption) ?_
              rotate_left
              · intro w hSw
                (try dsimp only at hSw)
                go_simp
                all_goals (with_reducible rfl)
              try simp only [Act.put, List.getElem_toArray, List.getElem_cons_zero, List.getElem_cons_succ, List.setIfInBounds_toArray, List.set_cons_zero, List.set_cons_succ]
              refine wpAnyH_take (i := 3) (v := ?_) rfl (by kernel_rfl) (by kernel_rfl) (by kernel_rfl) (fun _ _ _ h => h) (Or.inl ⟨by kernel_rfl, ?_⟩) (by assumption) ?_
              rotate_left
              · intro w hSw
                (try dsimp only at hSw)
                go_simp
                all_goals (with_reducible rfl)
              try simp only [Act.put, List.getElem_toArray, List.getElem_cons_zero, List.getElem_cons_succ, List.setIfInBounds_toArray, List.set_cons_zero, List.set_cons_succ]
              refine wpAnyH_ready (rs := [4]) (by kernel_rfl) (by simp) ?_
              refine AllReadyH.cons rfl (fun K hK => ?_) AllReadyH.nil
              go_simp
              go_at_call 34
              refine (validbox_any a b x y v0).mono ?_
              rw [HV1.out]
              rintro e v1 ⟨rfl, hk⟩
              have HB_1 := Lib.hid hk
              go_wp2_with fail
              have HX_1 := Lib.hid (bt HX_0.out HB_1.out)
              have X_1 := Lib.hid ((X_0.out).new HB_1.out)
              have Y_1 := Lib.hid ((Y_0.out).new HB_1.out)
              refine hK.out _ _ (HS.out _ HX_1.out) (fun hHeld2 => ?_)
              clear hHeld
              have hHeld := hHeld2
              clear hHeld2 hK K hk HB_1 HX_0 X_0 Y_0
              try simp only [Act.put, List.getElem_toArray, List.getElem_cons_zero, List.getElem_cons_succ, List.setIfInBounds_toArray, List.set_cons_zero, List.set_cons_succ]
              refine wpAnyH_take (i := 5) (v := ?_) rfl (by kernel_rfl) (by kernel_rfl) (by kernel_rfl) (fun _ _ _ h => h) (Or.inl ⟨by kernel_rfl, ?_⟩) (by assumption) ?_
              rotate_left
              · intro w hSw
                (try dsimp only at hSw)
                go_simp
                all_goals (with_reducible rfl)
              try simp only [Act.put, List.getElem_toArray, List.getElem_cons_zero, List.getElem_cons_succ, List.setIfInBounds_toArray, List.set_cons_zero, List.set_cons_succ]
              refine wpAnyH_take (i := 6) (v := ?_) rfl (by kernel_rfl) (by kernel_rfl) (by kernel_rfl) (fun _ _ _ h => h) (Or.inl ⟨by kernel_rfl, ?_⟩) (by assumption) ?_
              rotate_left
              · intro w hSw
                (try dsimp only at hSw)
                go_simp
                all_goals (with_reducible rfl)
              try simp only [Act.put, List.getElem_toArray, List.getElem_cons_zero, List.getElem_cons_succ, List.setIfInBounds_toArray, List.set_cons_zero, List.set_cons_succ]
              refine wpAnyH_take (i := 7) (v := undef) rfl (by kernel_rfl) (by kernel_rfl) (by kernel_rfl) (fun _ _ _ h => h) (Or.inr ⟨by kernel_rfl, rfl⟩) (by assumption) ?_
              try simp only [Act.put, List.getElem_toArray, List.getElem_cons_zero, List.getElem_cons_succ, List.setIfInBounds_toArray, List.set_cons_zero, List.set_cons_succ]
              refine wpAnyH_take (i := 8) (v := undef) rfl (by kernel_rfl) (by kernel_rfl) (by kernel_rfl) (fun _ _ _ h => h) (Or.inr ⟨by kernel_rfl, rfl⟩) (by assumption) ?_
              try simp only [Act.put, List.getElem_toArray, List.getElem_cons_zero, List.getElem_cons_succ, List.setIfInBounds_toArray, List.set_cons_zero, List.set_cons_succ]
              refine wpAnyH_take (i := 9) (v := undef) rfl (by kernel_rfl) (by kernel_rfl) (by kernel_rfl) (fun _ _ _ h => h) (Or.inr ⟨by kernel_rfl, rfl⟩) (by assumption) ?_
              try simp only [Act.put, List.getElem_toArray, List.getElem_cons_zero, List.getElem_cons_succ, List.setIfInBounds_toArray, List.set_cons_zero, List.set_cons_succ]
              refine wpAnyH_take (i := 10) (v := undef) rfl (by kernel_rfl) (by kernel_rfl) (by kernel_rfl) (fun _ _ _ h => h) (Or.inr ⟨by kernel_rfl, rfl⟩) (by assumption) ?_
              try simp only [Act.put, List.getElem_toArray, List.getElem_cons_zero, List.getElem_cons_succ, List.setIfInBounds_toArray, List.set_cons_zero, List.set_cons_succ]
              refine wpAnyH_take (i := 11) (v := undef) rfl (by kernel_rfl) (by kernel_rfl) (by kernel_rfl) (fun _ _ _ h => h) (Or.inr ⟨by kernel_rfl, rfl⟩) (by assumption) ?_
              try simp only [Act.put, List.getElem_toArray, List.getElem_cons_zero, List.getElem_cons_succ, List.setIfInBounds_toArray, List.set_cons_zero, List.set_cons_succ]
              refine wpAnyH_take (i := 12) (v := undef) rfl (by kernel_rfl) (by kernel_rfl) (by kernel_rfl) (fun _ _ _ h => h) (Or.inr ⟨by kernel_rfl, rfl⟩) (by assumption) ?_
              try simp only [Act.put, List.getElem_toArray, List.getElem_cons_zero, List.getElem_cons_succ, List.setIfInBounds_toArray, List.set_cons_zero, List.set_cons_succ]
              refine wpAnyH_take (i := 13) (v := ?_) rfl (by kernel_rfl) (by kernel_rfl) (by kernel_rfl) (fun _ _ _ h => h) (Or.inl ⟨by kernel_rfl, ?_⟩) (by assumption) ?_
              rotate_left
              · intro w hSw
                (try dsimp only at hSw)
                go_simp
                all_goals (with_reducible rfl)
              try simp only [Act.put, List.getElem_toArray, List.getElem_cons_zero, List.getElem_cons_succ, List.setIfInBounds_toArray, List.set_cons_zero, List.set_cons_succ]
              refine wpAnyH_take (i := 14) (v := ?_) rfl (by kernel_rfl) (by kernel_rfl) (by kernel_rfl) (fun _ _ _ h => h) (Or.inl ⟨by kernel_rfl, ?_⟩) (by assumption) ?_
              rotate_left
              · intro w hSw
                (try dsimp only at hSw)
                go_simp
                all_goals (with_reducible rfl)
              try simp only [Act.put, List.getElem_toArray, List.getElem_cons_zero, List.getElem_cons_succ, List.setIfInBounds_toArray, List.set_cons_zero, List.set_cons_succ]
              refine wpAnyH_take (i := 15) (v := undef) rfl (by kernel_rfl) (by kernel_rfl) (by kernel_rfl) (fun _ _ _ h => h) (Or.inr ⟨by kernel_rfl, rfl⟩) (by assumption) ?_
              try simp only [Act.put, List.getElem_toArray, List.getElem_cons_zero, List.getElem_cons_succ, List.setIfInBounds_toArray, List.set_cons_zero, List.set_cons_succ]
              refine wpAnyH_take (i := 16) (v := undef) rfl (by kernel_rfl) (by kernel_rfl) (by kernel_rfl) (fun _ _ _ h => h) (Or.inr ⟨by kernel_rfl, rfl⟩) (by assumption) ?_
              try simp only [Act.put, List.getElem_toArray, List.getElem_cons_zero, List.getElem_cons_succ, List.setIfInBounds_toArray, List.set_cons_zero, List.set_cons_succ]
              refine wpAnyH_take (i := 17) (v := undef) rfl (by kernel_rfl) (by kernel_rfl) (by kernel_rfl) (fun _ _ _ h => h) (Or.inr ⟨by kernel_rfl, rfl⟩) (by assumption) ?_
              try simp only [Act.put, List.getElem_toArray, List.getElem_cons_zero, List.getElem_cons_succ, List.setIfInBounds_toArray, List.set_cons_zero, List.set_cons_succ]
              refine wpAnyH_take (i := 18) (v := undef) rfl (by kernel_rfl) (by kernel_rfl) (by kernel_rfl) (fun _ _ _ h => h) (Or.inr ⟨by kernel_rfl, rfl⟩) (by assumption) ?_
              try simp only [Act.put, List.getElem_toArray, List.getElem_cons_zero, List.getElem_cons_succ, List.setIfInBounds_toArray, List.set_cons_zero, List.set_cons_succ]
              refine wpAnyH_take (i := 19) (v := undef) rfl (by kernel_rfl) (by kernel_rfl) (by kernel_rfl) (fun _ _ _ h => h) (Or.inr ⟨by kernel_rfl, rfl⟩) (by assumption) ?_
              try simp only [Act.put, List.getElem_toArray, List.getElem_cons_zero, List.getElem_cons_succ, List.setIfInBounds_toArray, List.set_cons_zero, List.set_cons_succ]
              refine wpAnyH_take (i := 20) (v := undef) rfl (by kernel_rfl) (by kernel_rfl) (by kernel_rfl) (fun _ _ _ h => h) (Or.inr ⟨by kernel_rfl, rfl⟩) (by assumption) ?_
              try simp only [Act.put, List.getElem_toArray, List.getElem_cons_zero, List.getElem_cons_succ, List.setIfInBounds_toArray, List.set_cons_zero, List.set_cons_succ]
              refine wpAnyH_take (i := 21) (v := undef) rfl (by kernel_rfl) (by kernel_rfl) (by kernel_rfl) (fun _ _ _ h => h) (Or.inr ⟨by kernel_rfl, rfl⟩) (by assumption) ?_
              try simp only [Act.put, List.getElem_toArray, List.getElem_cons_zero, List.getElem_cons_succ, List.setIfInBounds_toArray, List.set_cons_zero, List.set_cons_succ]
              refine wpAnyH_take (i := 22) (v := undef) rfl (by kernel_rfl) (by kernel_rfl) (by kernel_rfl) (fun _ _ _ h => h) (Or.inr ⟨by kernel_rfl, rfl⟩) (by assumption) ?_
              try simp only [Act.put, List.getElem_toArray, List.getElem_cons_zero, List.getElem_cons_succ, List.setIfInBounds_toArray, List.set_cons_zero, List.set_cons_succ]
              refine wpAnyH_take (i := 23) (v := undef) rfl (by kernel_rfl) (by kernel_rfl) (by kernel_rfl) (fun _ _ _ h => h) (Or.inr ⟨by kernel_rfl, rfl⟩) (by assumption) ?_
              try simp only [Act.put, List.getElem_toArray, List.getElem_cons_zero, List.getElem_cons_succ, List.setIfInBounds_toArray, List.set_cons_zero, List.set_cons_succ]
              refine wpAnyH_take (i := 24) (v := undef) rfl (by kernel_rfl) (by kernel_rfl) (by kernel_rfl) (fun _ _ _ h => h) (Or.inr ⟨by kernel_rfl, rfl⟩) (by assumption) ?_
              try simp only [Act.put, List.getElem_toArray, List.getElem_cons_zero, List.getElem_cons_succ, List.setIfInBounds_toArray, List.set_cons_zero, List.set_cons_succ]
              refine wpAnyH_take (i := 25) (v := undef) rfl (by kernel_rfl) (by kernel_rfl) (by kernel_rfl) (fun _ _ _ h => h) (Or.inr ⟨by kernel_rfl, rfl⟩) (by assumption) ?_
              try simp only [Act.put, List.getElem_toArray, List.getElem_cons_zero, List.getElem_cons_succ, List.setIfInBounds_toArray, List.set_cons_zero, List.set_cons_succ]
              refine wpAnyH_take (i := 26) (v := undef) rfl (by kernel_rfl) (by kernel_rfl) (by kernel_rfl) (fun _ _ _ h => h) (Or.inr ⟨by kernel_rfl, rfl⟩) (by assumption) ?_
              try simp only [Act.put, List.getElem_toArray, List.getElem_cons_zero, List.getElem_cons_succ, List.setIfInBounds_toArray, List.set_cons_zero, List.set_cons_succ]
              refine wpAnyH_take (i := 27) (v := undef) rfl (by kernel_rfl) (by kernel_rfl) (by kernel_rfl) (fun _ _ _ h => h) (Or.inr ⟨by kernel_rfl, rfl⟩) (by assumption) ?_
              try simp only [Act.put, List.getElem_toArray, List.getElem_cons_zero, List.getElem_cons_succ, List.setIfInBounds_toArray, List.set_cons_zero, List.set_cons_succ]
              refine wpAnyH_take (i := 28) (v := undef) rfl (by kernel_rfl) (by kernel_rfl) (by kernel_rfl) (fun _ _ _ h => h) (Or.inr ⟨by kernel_rfl, rfl⟩) (by assumption) ?_
              try simp only [Act.put, List.getElem_toArray, List.getElem_cons_zero, List.getElem_cons_succ, List.setIfInBounds_toArray, List.set_cons_zero, List.set_cons_succ]
              refine wpAnyH_take (i := 29) (v := undef) rfl (by kernel_rfl) (by kernel_rfl) (by kernel_rfl) (fun _ _ _ h => h) (Or.inr ⟨by kernel_rfl, rfl⟩) (by assumption) ?_
              try simp only [Act.put, List.getElem_toArray, List.getElem_cons_zero, List.getElem_cons_succ, List.setIfInBounds_toArray, List.set_cons_zero, List.set_cons_succ]
              refine wpAnyH_take (i := 30) (v := undef) rfl (by kernel_rfl) (by kernel_rfl) (by kernel_rfl) (fun _ _ _ h => h) (Or.inr ⟨by kernel_rfl, rfl⟩) (by assumption) ?_
              try simp only [Act.put, List.getElem_toArray, List.getElem_cons_zero, List.getElem_cons_succ, List.setIfInBounds_toArray, List.set_cons_zero, List.set_cons_succ]
              refine wpAnyH_take (i := 31) (v := ?_) rfl (by kernel_rfl) (by kernel_rfl) (by kernel_rfl) (fun _ _ _ h => h) (Or.inl ⟨by kernel_rfl, ?_⟩) (by assumption) ?_
              rotate_left
              · intro w hSw
                (try dsimp only at hSw)
                go_simp
                all_goals (with_reducible rfl)
              try simp only [Act.put, List.getElem_toArray, List.getElem_cons_zero, List.getElem_cons_succ, List.setIfInBounds_toArray, List.set_cons_zero, List.set_cons_succ]
              refine wpAnyH_done (by kernel_rfl) ?_ _
              clear hHeld
              have HBN := Lib.hid (bt HBX.out HX_1.out)
              clear HS HQ
              go_wp2_with fail
              go_roundw
              case rel => exact ⟨j + 1, by omega, by go_num, HBN.out⟩
              case measure => simp [intOf]; omega
        · obtain rfl : j = 4 := by omega
          go_wp2_with fail
          go_roundw
          case rel => exact ⟨i + 1, by omega, by go_num, HB.out⟩
          case measure => simp [intOf]; omega
    · obtain rfl : i = 4 := by omega
      go_wp2_with fail
      refine (plives_any wr).mono ?_
      rintro e w9 ⟨rfl, hb9⟩
      have HB9 := Lib.hid (bt HBL.out (bt HB.out hb9))
      clear hb9
      go_wp2
      go_ret
      exact ⟨rfl, HB9.out⟩
end Go.Proofs.Ytfmccalkfagafaa
