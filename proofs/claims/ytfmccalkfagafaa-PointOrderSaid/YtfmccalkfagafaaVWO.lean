/- The walk of PointOrder: the law returns true for every input. -/
import Derived.Test.YtfmccalkfagafaaVWT
import Derived.Test.YtfmccalkfagafaaVWS
import Derived.Test.YtfmccalkfagafaaVX
namespace Go.Proofs.Ytfmccalkfagafaa
open Go.RowKit
attribute [local go_sem ↓] Go.wp_at_zero Go.wp_at_succ
theorem gets {l : List (Int × Int × Int)} {i : Nat} (h : l.length = 4) (hi : i < 4) (hc : ∀ p ∈ l, Sb p.1 p.2.1 p.2.2) : ∃ x y d, l[i]? = some (x, y, d) ∧ Sb x y d :=
  ⟨_, _, _, List.getElem?_eq_getElem (by omega), hc _ (List.getElem_mem _)⟩
theorem sb_len {X Y D : Int} (h : Sb X Y D) : (fracT (mkP X D) (mkQ X D)).length ≤ 1000 ∧ (fracT (mkP Y D) (mkQ Y D)).length ≤ 1000 := by
  obtain ⟨⟨d0, d1⟩, ⟨x0, x1⟩, y0, y1⟩ := h
  have b1 := mk_bound (x := X) d0
  have b2 := mk_bound (x := Y) d0
  exact ⟨fracT_len (by omega) (by omega), fracT_len (by omega) (by omega)⟩
theorem sbmd {X Y D : Int} (h : Sb X Y D) : Md X Y D := by unfold Sb at h; unfold Md; omega
theorem bI_inj {a b : List UInt8} (h : bI a = bI b) : a = b := by
  induction a generalizing b with
  | nil => cases b with
    | nil => rfl
    | cons y b => simp [bI] at h
  | cons x a ih => cases b with
    | nil => simp [bI] at h
    | cons y b =>
      simp only [bI, List.map_cons, List.cons.injEq] at h
      obtain ⟨h1, h2⟩ := h
      have e1 : x = y := by
        apply UInt8.toNat_inj.1
        omega
      rw [e1, ih h2]
theorem rd_new {k : IntKind} {w w' : World} {sv : Value} {xs : List Int} (h : Rd k w w.heap.size sv xs) (hb : Below w.heap.size w w') : Rd k w' w'.heap.size sv xs := by
  rcases h with h | ⟨b, off, c, h1, h2, h3, h4⟩
  · exact .inl h
  · exact .inr ⟨b, off, c, h1, h2, Nat.lt_of_lt_of_le h3 hb.size, fun j v hj => (hb.cell (p := ⟨b, off + j, none⟩) h3).trans (h4 j v hj)⟩
/-- The encodings are equal exactly where the order is 0. -/
theorem enc_rc {X Y D X' Y' D' : Int} (h : Sb X Y D) (h' : Sb X' Y' D') : decide (bI (encP (mkP X D) (mkQ X D) (mkP Y D) (mkQ Y D)) = bI (encP (mkP X' D') (mkQ X' D') (mkP Y' D') (mkQ Y' D'))) = (rcV X Y D X' Y' D' == 0) := by
  have hr := rc_same (X := X) (Y := Y) (D := D) (X' := X') (Y' := Y') (D' := D') h.1.1 h'.1.1
  by_cases h0 : rcV X Y D X' Y' D' = 0
  · obtain ⟨⟨e1, e2⟩, e3, e4⟩ := hr.1 h0
    rw [e1, e2, e3, e4, h0]
    simp
  · have hne : bI (encP (mkP X D) (mkQ X D) (mkP Y D) (mkQ Y D)) ≠ bI (encP (mkP X' D') (mkQ X' D') (mkP Y' D') (mkQ Y' D')) := by
      intro e
      have e5 := bI_inj e
      obtain ⟨t1, t2⟩ := enc_inj (sb_len h).1 (sb_len h).2 (sb_len h').1 (sb_len h').2 e5
      exact h0 (hr.2 ⟨fracT_inj t1, fracT_inj t2⟩)
    rw [decide_eq_false hne]
    simp [h0]
theorem enc_len {X Y D : Int} (h : Sb X Y D) : (bI (encP (mkP X D) (mkQ X D) (mkP Y D) (mkQ Y D))).length ≤ 60000 := by
  have h1 := (sb_len h).1
  have h2 := (sb_len h).2
  have h3 := uv_len10 (n := (fracT (mkP X D) (mkQ X D)).length) (by omega)
  have h4 := uv_len10 (n := (fracT (mkP Y D) (mkQ Y D)).length) (by omega)
  rw [bI_len]
  unfold encP rawE
  simp only [List.length_append]
  omega
set_option maxRecDepth 100000 in
set_option maxHeartbeats 6400000 in
theorem pointOrder_walk (a b c : Int) (w : World) (ha : (Lit.int .i64 a).wf = true) (hb : (Lit.int .i64 b).wf = true) (hc : (Lit.int .i64 c).wf = true) :
    Calls Try.prog 3 #[.int .i64 a, .int .i64 b, .int .i64 c] w fun e w' => e = .returned (.bool true) ∧ Below w.heap.size w w' := by
  have HI := Lib.hid (And.intro ha (And.intro hb hc))
  obtain ⟨n4, hn4⟩ : ∃ z, IntKind.i64.wrap (a + 1) = z := ⟨_, rfl⟩
  have HN4 := Lib.hid (show (Lit.int .i64 n4).wf = true by rw [← hn4, IntWalk.i64_left]; exact wrap64_wf _)
  clear ha hb hc
  go_enter Try.func3, Try.ntmps3
  go_wp2_with fail
  refine (some_any a w HI.out.1).mono ?_
  rintro e w0 ⟨x0, y0, d0, rfl, hs, hb⟩
  have HS0 := Lib.hid hs.sb
  have HW0 := Lib.hid (hb)
  clear hs hb
  go_wp2_with fail
  refine (some_any b w0 HI.out.2.1).mono ?_
  rintro e w1 ⟨x1, y1, d1, rfl, hs, hb⟩
  have HS1 := Lib.hid hs.sb
  have HW1 := Lib.hid (bt HW0.out hb)
  clear hs hb
  go_wp2_with fail
  refine (some_any c w1 HI.out.2.2).mono ?_
  rintro e w2 ⟨x2, y2, d2, rfl, hs, hb⟩
  have HS2 := Lib.hid hs.sb
  have HW2 := Lib.hid (bt HW1.out hb)
  clear hs hb
  go_wp2_with fail
  refine (some_any n4 w2 HN4.out).mono ?_
  rintro e w3 ⟨x3, y3, d3, rfl, hs, hb⟩
  have HS3 := Lib.hid hs.sb
  have HW3 := Lib.hid (bt HW2.out hb)
  clear hs hb
  obtain ⟨WL, hWL⟩ : ∃ z, w3.alloc (.cells #[.int .i64 x0, .int .i64 y0, .int .i64 d0, .int .i64 x1, .int .i64 y1, .int .i64 d1, .int .i64 x2, .int .i64 y2, .int .i64 d2, .int .i64 x3, .int .i64 y3, .int .i64 d3] 23) = z := ⟨_, rfl⟩
  obtain ⟨L, hL⟩ : ∃ l, [(x0, y0, d0), (x1, y1, d1), (x2, y2, d2), (x3, y3, d3)] = l := ⟨_, rfl⟩
  obtain ⟨G, hG⟩ : ∃ g, w3.heap.size = g := ⟨_, rfl⟩
  have HL := Lib.hid (show BK 23 WL G (vp3 L).toArray by rw [← hWL, ← hG, ← hL]; exact BK.lit _ _ _)
  have HBL := Lib.hid (show Below w.heap.size w WL by rw [← hWL]; exact bt HW3.out ((Below.refl _ _).alloc (Nat.le_refl _) _))
  have HLc := Lib.hid (show L.length = 4 ∧ ∀ p ∈ L, Sb p.1 p.2.1 p.2.2 by
    rw [← hL]
    refine ⟨rfl, fun p hp => ?_⟩
    simp only [List.mem_cons, List.not_mem_nil, or_false] at hp
    rcases hp with rfl | rfl | rfl | rfl
    · exact HS0.out
    · exact HS1.out
    · exact HS2.out
    · exact HS3.out)
  go_wp2_with fail
  clear hWL hL hG hn4 HS0 HS1 HS2 HS3 HW0 HW1 HW2 HW3 HI HN4
  go_loopw [8] (fun tv wr => ∃ i : Nat, i ≤ 4 ∧ tv = .int .i64 (i : Int) ∧ Below WL.heap.size WL wr) (fun tv _ => 4 - (intOf tv).toNat)
  case atStart => exact ⟨0, by omega, rfl, Below.refl _ _⟩
  case round =>
    obtain ⟨i, hi, rfl, hbel⟩ := hrel
    have HB := Lib.hid hbel
    clear hbel
    by_cases hlt : i < 4
    · have h0i : (0 : Int) ≤ (i : Int) := by omega
      have h4i : (i : Int) < 4 := by omega
      obtain ⟨X, Y, D, hp, hm⟩ := gets HLc.out.1 hlt HLc.out.2
      have HGi := Lib.hid (fun (w' : World) (hb : Below WL.heap.size WL w') => (HL.out.new hb).get3 hp)
      have HCi := Lib.hid hm
      clear hp hm
      obtain ⟨Wo, rfl⟩ : ∃ Wo : World, Wo = wr := ⟨_, rfl⟩
      go_wp2_with fail
      go_loopw [9] (fun tv wr => ∃ j : Nat, j ≤ 4 ∧ tv = .int .i64 (j : Int) ∧ Below WL.heap.size WL wr) (fun tv _ => 4 - (intOf tv).toNat)
      case atStart => exact ⟨0, by omega, rfl, HB.out⟩
      case round =>
        clear HB
        obtain ⟨j, hj, rfl, hbel⟩ := hrel
        have HB := Lib.hid hbel
        clear hbel
        by_cases hjl : j < 4
        · have h0j : (0 : Int) ≤ (j : Int) := by omega
          have h4j : (j : Int) < 4 := by omega
          obtain ⟨X', Y', D', hp, hm⟩ := gets HLc.out.1 hjl HLc.out.2
          have HGj := Lib.hid (fun (w' : World) (hb : Below WL.heap.size WL w') => (HL.out.new hb).get3 hp)
          have HCj := Lib.hid hm
          clear hp hm
          obtain ⟨r1, hr1⟩ : ∃ z, rcV X Y D X' Y' D' = z := ⟨_, rfl⟩
          have HR1 := Lib.hid hr1
          have HSB := Lib.hid (show decide (bI (encP (mkP X D) (mkQ X D) (mkP Y D) (mkQ Y D)) = bI (encP (mkP X' D') (mkQ X' D') (mkP Y' D') (mkQ Y' D'))) = (r1 == 0) by rw [← hr1]; exact enc_rc HCi.out HCj.out)
          have HSW := Lib.hid (show rcV X' Y' D' X Y D = -r1 by rw [← hr1]; exact rc_swap _ _ _ _ _ _)
          have HNG := Lib.hid (show IntKind.i64.wrap (-r1) = -r1 by
            refine IntWalk.i64_in _ ?_
            rw [← hr1]
            unfold rcV cmpI
            split <;> (try split) <;> (try split) <;> (try split) <;> omega)
          clear hr1
          go_wp2_with fail
          obtain ⟨v0, hv0⟩ : ∃ z, World.drew wr = z := ⟨_, rfl⟩
          have HD0 := Lib.hid (show Below wr.heap.size wr v0 by rw [← hv0]; exact (Below.refl _ _).drew)
          have HX_0 := Lib.hid (bt HB.out HD0.out)
          refine wp_region_held_drew (S := (fun w' : World => w'.cell? ⟨G, i * 3, none⟩ = some (.int .i64 X) ∧ w'.cell? ⟨G, i * 3 + 1, none⟩ = some (.int .i64 Y) ∧ w'.cell? ⟨G, i * 3 + 2, none⟩ = some (.int .i64 D) ∧ w'.cell? ⟨G, j * 3, none⟩ = some (.int .i64 X') ∧ w'.cell? ⟨G, j * 3 + 1, none⟩ = some (.int .i64 Y') ∧ w'.cell? ⟨G, j * 3 + 2, none⟩ = some (.int .i64 D') ∧ Below WL.heap.size WL w')) (by kernel_rfl) ?_ (fun hHeld => ?_)
          · rw [hv0]
            exact ⟨(HGi.out _ HX_0.out).1, (HGi.out _ HX_0.out).2.1, (HGi.out _ HX_0.out).2.2, (HGj.out _ HX_0.out).1, (HGj.out _ HX_0.out).2.1, (HGj.out _ HX_0.out).2.2, HX_0.out⟩
          rw [hv0] at hHeld ⊢
          clear hv0 HD0
          refine wpAnyH_take (i := 0) (v := ?_) rfl (by kernel_rfl) (by kernel_rfl) (by kernel_rfl) (fun _ _ _ h => h) (Or.inl ⟨by kernel_rfl, ?_⟩) (by assumption) ?_
          rotate_left
          · intro w hSw
            (try dsimp only at hSw)
            go_simp
            all_goals (with_reducible rfl)
          try simp only [Act.put, List.getElem_toArray, List.getElem_cons_zero, List.setIfInBounds_toArray, List.set_cons_zero, List.set_cons_succ]
          refine wpAnyH_take (i := 1) (v := ?_) rfl (by kernel_rfl) (by kernel_rfl) (by kernel_rfl) (fun _ _ _ h => h) (Or.inl ⟨by kernel_rfl, ?_⟩) (by assumption) ?_
          rotate_left
          · intro w hSw
            (try dsimp only at hSw)
            go_simp
            all_goals (with_reducible rfl)
          try simp only [Act.put, List.getElem_toArray, List.getElem_cons_zero, List.getElem_cons_succ, List.setIfInBounds_toArray, List.set_cons_zero, List.set_cons_succ]
          refine wpAnyH_take (i := 2) (v := ?_) rfl (by kernel_rfl) (by kernel_rfl) (by kernel_rfl) (fun _ _ _ h => h) (Or.inl ⟨by kernel_rfl, ?_⟩) (by assumption) ?_
          rotate_left
          · intro w hSw
            (try dsimp only at hSw)
            go_simp
            all_goals (with_reducible rfl)
          try simp only [Act.put, List.getElem_toArray, List.getElem_cons_zero, List.getElem_cons_succ, List.setIfInBounds_toArray, List.set_cons_zero, List.set_cons_succ]
          refine wpAnyH_take (i := 3) (v := ?_) rfl (by kernel_rfl) (by kernel_rfl) (by kernel_rfl) (fun _ _ _ h => h) (Or.inl ⟨by kernel_rfl, ?_⟩) (by assumption) ?_
          rotate_left
          · intro w hSw
            (try dsimp only at hSw)
            go_simp
            all_goals (with_reducible rfl)
          try simp only [Act.put, List.getElem_toArray, List.getElem_cons_zero, List.getElem_cons_succ, List.setIfInBounds_toArray, List.set_cons_zero, List.set_cons_succ]
          refine wpAnyH_take (i := 5) (v := ?_) rfl (by kernel_rfl) (by kernel_rfl) (by kernel_rfl) (fun _ _ _ h => h) (Or.inl ⟨by kernel_rfl, ?_⟩) (by assumption) ?_
          rotate_left
          · intro w hSw
            (try dsimp only at hSw)
            go_simp
            all_goals (with_reducible rfl)
          try simp only [Act.put, List.getElem_toArray, List.getElem_cons_zero, List.getElem_cons_succ, List.setIfInBounds_toArray, List.set_cons_zero, List.set_cons_succ]
          refine wpAnyH_take (i := 6) (v := ?_) rfl (by kernel_rfl) (by kernel_rfl) (by kernel_rfl) (fun _ _ _ h => h) (Or.inl ⟨by kernel_rfl, ?_⟩) (by assumption) ?_
          rotate_left
          · intro w hSw
            (try dsimp only at hSw)
            go_simp
            all_goals (with_reducible rfl)
          try simp only [Act.put, List.getElem_toArray, List.getElem_cons_zero, List.getElem_cons_succ, List.setIfInBounds_toArray, List.set_cons_zero, List.set_cons_succ]
          refine wpAnyH_take (i := 7) (v := ?_) rfl (by kernel_rfl) (by kernel_rfl) (by kernel_rfl) (fun _ _ _ h => h) (Or.inl ⟨by kernel_rfl, ?_⟩) (by assumption) ?_
          rotate_left
          · intro w hSw
            (try dsimp only at hSw)
            go_simp
            all_goals (with_reducible rfl)
          try simp only [Act.put, List.getElem_toArray, List.getElem_cons_zero, List.getElem_cons_succ, List.setIfInBounds_toArray, List.set_cons_zero, List.set_cons_succ]
          refine wpAnyH_take (i := 8) (v := ?_) rfl (by kernel_rfl) (by kernel_rfl) (by kernel_rfl) (fun _ _ _ h => h) (Or.inl ⟨by kernel_rfl, ?_⟩) (by assumption) ?_
          rotate_left
          · intro w hSw
            (try dsimp only at hSw)
            go_simp
            all_goals (with_reducible rfl)
          try simp only [Act.put, List.getElem_toArray, List.getElem_cons_zero, List.getElem_cons_succ, List.setIfInBounds_toArray, List.set_cons_zero, List.set_cons_succ]
          refine wpAnyH_ready (rs := [4]) (by kernel_rfl) (by simp) ?_
          refine AllReadyH.cons rfl (fun K hK => ?_) AllReadyH.nil
          go_simp
          go_at_call 10
          refine (real_any X Y D v0 (md_wf (sbmd HCi.out)).1 (md_wf (sbmd HCi.out)).2.1 (md_wf (sbmd HCi.out)).2.2).mono ?_
          rintro e v1 ⟨s0, A0, n0, c0, t0, B0, m0, d0, s1, A1, n1, c1, t1, B1, m1, d1, rfl, hr1, hr2, hk⟩
          have F0_1 := Lib.hid (hr1)
          have F1_1 := Lib.hid (hr2)
          have HB_1 := Lib.hid hk
          go_wp2_with fail
          have HX_1 := Lib.hid (bt HX_0.out HB_1.out)
          refine hK.out _ _ (⟨(HGi.out _ HX_1.out).1, (HGi.out _ HX_1.out).2.1, (HGi.out _ HX_1.out).2.2, (HGj.out _ HX_1.out).1, (HGj.out _ HX_1.out).2.1, (HGj.out _ HX_1.out).2.2, HX_1.out⟩) (fun hHeld2 => ?_)
          clear hHeld
          have hHeld := hHeld2
          clear hHeld2 hK K hk HB_1 hr1 hr2 HX_0
          try simp only [Act.put, List.getElem_toArray, List.getElem_cons_zero, List.getElem_cons_succ, List.setIfInBounds_toArray, List.set_cons_zero, List.set_cons_succ]
          refine wpAnyH_ready (rs := [9]) (by kernel_rfl) (by simp) ?_
          refine AllReadyH.cons rfl (fun K hK => ?_) AllReadyH.nil
          go_simp
          go_at_call 10
          refine (real_any X' Y' D' v1 (md_wf (sbmd HCj.out)).1 (md_wf (sbmd HCj.out)).2.1 (md_wf (sbmd HCj.out)).2.2).mono ?_
          rintro e v2 ⟨s2, A2, n2, c2, t2, B2, m2, d2, s3, A3, n3, c3, t3, B3, m3, d3, rfl, hr1, hr2, hk⟩
          have F2_2 := Lib.hid (hr1)
          have F3_2 := Lib.hid (hr2)
          have HB_2 := Lib.hid hk
          go_wp2_with fail
          have HX_2 := Lib.hid (bt HX_1.out HB_2.out)
          have F0_2 := Lib.hid ((F0_1.out).new HB_2.out)
          have F1_2 := Lib.hid ((F1_1.out).new HB_2.out)
          refine hK.out _ _ (⟨(HGi.out _ HX_2.out).1, (HGi.out _ HX_2.out).2.1, (HGi.out _ HX_2.out).2.2, (HGj.out _ HX_2.out).1, (HGj.out _ HX_2.out).2.1, (HGj.out _ HX_2.out).2.2, HX_2.out⟩) (fun hHeld2 => ?_)
          clear hHeld
          have hHeld := hHeld2
          clear hHeld2 hK K hk HB_2 hr1 hr2 HX_1 F0_1 F1_1
          try simp only [Act.put, List.getElem_toArray, List.getElem_cons_zero, List.getElem_cons_succ, List.setIfInBounds_toArray, List.set_cons_zero, List.set_cons_succ]
          refine wpAnyH_ready (rs := [10]) (by kernel_rfl) (by simp) ?_
          refine AllReadyH.cons rfl (fun K hK => ?_) AllReadyH.nil
          go_simp
          go_at_call 9
          refine (ptcompare_any (mkP X D) (mkQ X D) (mkP Y D) (mkQ Y D) (mkP X' D') (mkQ X' D') (mkP Y' D') (mkQ Y' D') s0 A0 n0 c0 t0 B0 m0 d0 s1 A1 n1 c1 t1 B1 m1 d1 s2 A2 n2 c2 t2 B2 m2 d2 s3 A3 n3 c3 t3 B3 m3 d3 v2 F0_2.out F1_2.out F2_2.out F3_2.out ⟨(md_lims (sbmd HCi.out)).1, (md_lims (sbmd HCi.out)).2, (md_lims (sbmd HCj.out)).1, (md_lims (sbmd HCj.out)).2⟩).mono ?_
          rw [pc_rc HCi.out.1.1 HCj.out.1.1, HR1.out]
          rintro e v3 ⟨rfl, hk⟩
          have HB_3 := Lib.hid hk
          go_wp2_with fail
          clear F0_2
          clear F1_2
          clear F2_2
          clear F3_2
          have HX_3 := Lib.hid (bt HX_2.out HB_3.out)
          refine hK.out _ _ (⟨(HGi.out _ HX_3.out).1, (HGi.out _ HX_3.out).2.1, (HGi.out _ HX_3.out).2.2, (HGj.out _ HX_3.out).1, (HGj.out _ HX_3.out).2.1, (HGj.out _ HX_3.out).2.2, HX_3.out⟩) (fun hHeld2 => ?_)
          clear hHeld
          have hHeld := hHeld2
          clear hHeld2 hK K hk HB_3 HX_2
          try simp only [Act.put, List.getElem_toArray, List.getElem_cons_zero, List.getElem_cons_succ, List.setIfInBounds_toArray, List.set_cons_zero, List.set_cons_succ]
          refine wpAnyH_take (i := 11) (v := ?_) rfl (by kernel_rfl) (by kernel_rfl) (by kernel_rfl) (fun _ _ _ h => h) (Or.inl ⟨by kernel_rfl, ?_⟩) (by assumption) ?_
          rotate_left
          · intro w hSw
            (try dsimp only at hSw)
            go_simp
            all_goals (with_reducible rfl)
          try simp only [Act.put, List.getElem_toArray, List.getElem_cons_zero, List.getElem_cons_succ, List.setIfInBounds_toArray, List.set_cons_zero, List.set_cons_succ]
          refine wpAnyH_done (by kernel_rfl) ?_ _
          clear hHeld
          have HX9 := Lib.hid HX_3.out
          obtain ⟨W9, hW9⟩ : ∃ z, z = v3 := ⟨_, rfl⟩
          subst hW9
          go_wp2_with fail
          obtain ⟨v0, hv0⟩ : ∃ z, World.drew W9 = z := ⟨_, rfl⟩
          have HD0 := Lib.hid (show Below W9.heap.size W9 v0 by rw [← hv0]; exact (Below.refl _ _).drew)
          have HX_0 := Lib.hid (bt HX9.out HD0.out)
          refine wp_region_held_drew (S := (fun w' : World => w'.cell? ⟨G, i * 3, none⟩ = some (.int .i64 X) ∧ w'.cell? ⟨G, i * 3 + 1, none⟩ = some (.int .i64 Y) ∧ w'.cell? ⟨G, i * 3 + 2, none⟩ = some (.int .i64 D) ∧ w'.cell? ⟨G, j * 3, none⟩ = some (.int .i64 X') ∧ w'.cell? ⟨G, j * 3 + 1, none⟩ = some (.int .i64 Y') ∧ w'.cell? ⟨G, j * 3 + 2, none⟩ = some (.int .i64 D') ∧ Below WL.heap.size WL w')) (by kernel_rfl) ?_ (fun hHeld => ?_)
          · rw [hv0]
            exact ⟨(HGi.out _ HX_0.out).1, (HGi.out _ HX_0.out).2.1, (HGi.out _ HX_0.out).2.2, (HGj.out _ HX_0.out).1, (HGj.out _ HX_0.out).2.1, (HGj.out _ HX_0.out).2.2, HX_0.out⟩
          rw [hv0] at hHeld ⊢
          clear hv0 HD0
          refine wpAnyH_take (i := 0) (v := ?_) rfl (by kernel_rfl) (by kernel_rfl) (by kernel_rfl) (fun _ _ _ h => h) (Or.inl ⟨by kernel_rfl, ?_⟩) (by assumption) ?_
          rotate_left
          · intro w hSw
            (try dsimp only at hSw)
            go_simp
            all_goals (with_reducible rfl)
          try simp only [Act.put, List.getElem_toArray, List.getElem_cons_zero, List.setIfInBounds_toArray, List.set_cons_zero, List.set_cons_succ]
          refine wpAnyH_take (i := 1) (v := ?_) rfl (by kernel_rfl) (by kernel_rfl) (by kernel_rfl) (fun _ _ _ h => h) (Or.inl ⟨by kernel_rfl, ?_⟩) (by assumption) ?_
          rotate_left
          · intro w hSw
            (try dsimp only at hSw)
            go_simp
            all_goals (with_reducible rfl)
          try simp only [Act.put, List.getElem_toArray, List.getElem_cons_zero, List.getElem_cons_succ, List.setIfInBounds_toArray, List.set_cons_zero, List.set_cons_succ]
          refine wpAnyH_take (i := 2) (v := ?_) rfl (by kernel_rfl) (by kernel_rfl) (by kernel_rfl) (fun _ _ _ h => h) (Or.inl ⟨by kernel_rfl, ?_⟩) (by assumption) ?_
          rotate_left
          · intro w hSw
            (try dsimp only at hSw)
            go_simp
            all_goals (with_reducible rfl)
          try simp only [Act.put, List.getElem_toArray, List.getElem_cons_zero, List.getElem_cons_succ, List.setIfInBounds_toArray, List.set_cons_zero, List.set_cons_succ]
          refine wpAnyH_take (i := 3) (v := ?_) rfl (by kernel_rfl) (by kernel_rfl) (by kernel_rfl) (fun _ _ _ h => h) (Or.inl ⟨by kernel_rfl, ?_⟩) (by assumption) ?_
          rotate_left
          · intro w hSw
            (try dsimp only at hSw)
            go_simp
            all_goals (with_reducible rfl)
          try simp only [Act.put, List.getElem_toArray, List.getElem_cons_zero, List.getElem_cons_succ, List.setIfInBounds_toArray, List.set_cons_zero, List.set_cons_succ]
          refine wpAnyH_take (i := 6) (v := ?_) rfl (by kernel_rfl) (by kernel_rfl) (by kernel_rfl) (fun _ _ _ h => h) (Or.inl ⟨by kernel_rfl, ?_⟩) (by assumption) ?_
          rotate_left
          · intro w hSw
            (try dsimp only at hSw)
            go_simp
            all_goals (with_reducible rfl)
          try simp only [Act.put, List.getElem_toArray, List.getElem_cons_zero, List.getElem_cons_succ, List.setIfInBounds_toArray, List.set_cons_zero, List.set_cons_succ]
          refine wpAnyH_take (i := 7) (v := ?_) rfl (by kernel_rfl) (by kernel_rfl) (by kernel_rfl) (fun _ _ _ h => h) (Or.inl ⟨by kernel_rfl, ?_⟩) (by assumption) ?_
          rotate_left
          · intro w hSw
            (try dsimp only at hSw)
            go_simp
            all_goals (with_reducible rfl)
          try simp only [Act.put, List.getElem_toArray, List.getElem_cons_zero, List.getElem_cons_succ, List.setIfInBounds_toArray, List.set_cons_zero, List.set_cons_succ]
          refine wpAnyH_take (i := 8) (v := ?_) rfl (by kernel_rfl) (by kernel_rfl) (by kernel_rfl) (fun _ _ _ h => h) (Or.inl ⟨by kernel_rfl, ?_⟩) (by assumption) ?_
          rotate_left
          · intro w hSw
            (try dsimp only at hSw)
            go_simp
            all_goals (with_reducible rfl)
          try simp only [Act.put, List.getElem_toArray, List.getElem_cons_zero, List.getElem_cons_succ, List.setIfInBounds_toArray, List.set_cons_zero, List.set_cons_succ]
          refine wpAnyH_take (i := 9) (v := ?_) rfl (by kernel_rfl) (by kernel_rfl) (by kernel_rfl) (fun _ _ _ h => h) (Or.inl ⟨by kernel_rfl, ?_⟩) (by assumption) ?_
          rotate_left
          · intro w hSw
            (try dsimp only at hSw)
            go_simp
            all_goals (with_reducible rfl)
          try simp only [Act.put, List.getElem_toArray, List.getElem_cons_zero, List.getElem_cons_succ, List.setIfInBounds_toArray, List.set_cons_zero, List.set_cons_succ]
          refine wpAnyH_ready (rs := [4]) (by kernel_rfl) (by simp) ?_
          refine AllReadyH.cons rfl (fun K hK => ?_) AllReadyH.nil
          go_simp
          go_at_call 10
          refine (real_any X Y D v0 (md_wf (sbmd HCi.out)).1 (md_wf (sbmd HCi.out)).2.1 (md_wf (sbmd HCi.out)).2.2).mono ?_
          rintro e v1 ⟨s0, A0, n0, c0, t0, B0, m0, d0, s1, A1, n1, c1, t1, B1, m1, d1, rfl, hr1, hr2, hk⟩
          have F0_1 := Lib.hid (hr1)
          have F1_1 := Lib.hid (hr2)
          have HB_1 := Lib.hid hk
          go_wp2_with fail
          have HX_1 := Lib.hid (bt HX_0.out HB_1.out)
          refine hK.out _ _ (⟨(HGi.out _ HX_1.out).1, (HGi.out _ HX_1.out).2.1, (HGi.out _ HX_1.out).2.2, (HGj.out _ HX_1.out).1, (HGj.out _ HX_1.out).2.1, (HGj.out _ HX_1.out).2.2, HX_1.out⟩) (fun hHeld2 => ?_)
          clear hHeld
          have hHeld := hHeld2
          clear hHeld2 hK K hk HB_1 hr1 hr2 HX_0
          try simp only [Act.put, List.getElem_toArray, List.getElem_cons_zero, List.getElem_cons_succ, List.setIfInBounds_toArray, List.set_cons_zero, List.set_cons_succ]
          refine wpAnyH_ready (rs := [5]) (by kernel_rfl) (by simp) ?_
          refine AllReadyH.cons rfl (fun K hK => ?_) AllReadyH.nil
          go_simp
          go_at_call 12
          refine (encode_any (mkP X D) (mkQ X D) (mkP Y D) (mkQ Y D) s0 A0 n0 c0 t0 B0 m0 d0 s1 A1 n1 c1 t1 B1 m1 d1 v1 F0_1.out F1_1.out (md_lims (sbmd HCi.out)) (sb_len HCi.out)).mono ?_
          rintro e v2 ⟨ea0, ec0, rfl, hown, hk⟩
          have hrd := Rd.own hown
          clear hown
          have E0_2 := Lib.hid (hrd)
          have HB_2 := Lib.hid hk
          go_wp2_with fail
          clear F0_1
          clear F1_1
          have HX_2 := Lib.hid (bt HX_1.out HB_2.out)
          refine hK.out _ _ (⟨(HGi.out _ HX_2.out).1, (HGi.out _ HX_2.out).2.1, (HGi.out _ HX_2.out).2.2, (HGj.out _ HX_2.out).1, (HGj.out _ HX_2.out).2.1, (HGj.out _ HX_2.out).2.2, HX_2.out⟩) (fun hHeld2 => ?_)
          clear hHeld
          have hHeld := hHeld2
          clear hHeld2 hK K hk HB_2 hrd HX_1
          try simp only [Act.put, List.getElem_toArray, List.getElem_cons_zero, List.getElem_cons_succ, List.setIfInBounds_toArray, List.set_cons_zero, List.set_cons_succ]
          refine wpAnyH_ready (rs := [10]) (by kernel_rfl) (by simp) ?_
          refine AllReadyH.cons rfl (fun K hK => ?_) AllReadyH.nil
          go_simp
          go_at_call 10
          refine (real_any X' Y' D' v2 (md_wf (sbmd HCj.out)).1 (md_wf (sbmd HCj.out)).2.1 (md_wf (sbmd HCj.out)).2.2).mono ?_
          rintro e v3 ⟨s2, A2, n2, c2, t2, B2, m2, d2, s3, A3, n3, c3, t3, B3, m3, d3, rfl, hr1, hr2, hk⟩
          have F2_3 := Lib.hid (hr1)
          have F3_3 := Lib.hid (hr2)
          have HB_3 := Lib.hid hk
          go_wp2_with fail
          have HX_3 := Lib.hid (bt HX_2.out HB_3.out)
          have E0_3 := Lib.hid (rd_new (E0_2.out) HB_3.out)
          refine hK.out _ _ (⟨(HGi.out _ HX_3.out).1, (HGi.out _ HX_3.out).2.1, (HGi.out _ HX_3.out).2.2, (HGj.out _ HX_3.out).1, (HGj.out _ HX_3.out).2.1, (HGj.out _ HX_3.out).2.2, HX_3.out⟩) (fun hHeld2 => ?_)
          clear hHeld
          have hHeld := hHeld2
          clear hHeld2 hK K hk HB_3 hr1 hr2 HX_2 E0_2
          try simp only [Act.put, List.getElem_toArray, List.getElem_cons_zero, List.getElem_cons_succ, List.setIfInBounds_toArray, List.set_cons_zero, List.set_cons_succ]
          refine wpAnyH_ready (rs := [11]) (by kernel_rfl) (by simp) ?_
          refine AllReadyH.cons rfl (fun K hK => ?_) AllReadyH.nil
          go_simp
          go_at_call 12
          refine (encode_any (mkP X' D') (mkQ X' D') (mkP Y' D') (mkQ Y' D') s2 A2 n2 c2 t2 B2 m2 d2 s3 A3 n3 c3 t3 B3 m3 d3 v3 F2_3.out F3_3.out (md_lims (sbmd HCj.out)) (sb_len HCj.out)).mono ?_
          rintro e v4 ⟨ea1, ec1, rfl, hown, hk⟩
          have hrd := Rd.own hown
          clear hown
          have E1_4 := Lib.hid (hrd)
          have HB_4 := Lib.hid hk
          go_wp2_with fail
          clear F2_3
          clear F3_3
          have HX_4 := Lib.hid (bt HX_3.out HB_4.out)
          have E0_4 := Lib.hid (rd_new (E0_3.out) HB_4.out)
          refine hK.out _ _ (⟨(HGi.out _ HX_4.out).1, (HGi.out _ HX_4.out).2.1, (HGi.out _ HX_4.out).2.2, (HGj.out _ HX_4.out).1, (HGj.out _ HX_4.out).2.1, (HGj.out _ HX_4.out).2.2, HX_4.out⟩) (fun hHeld2 => ?_)
          clear hHeld
          have hHeld := hHeld2
          clear hHeld2 hK K hk HB_4 hrd HX_3 E0_3
          try simp only [Act.put, List.getElem_toArray, List.getElem_cons_zero, List.getElem_cons_succ, List.setIfInBounds_toArray, List.set_cons_zero, List.set_cons_succ]
          refine wpAnyH_ready (rs := [12]) (by kernel_rfl) (by simp) ?_
          refine AllReadyH.cons rfl (fun K hK => ?_) AllReadyH.nil
          go_simp
          go_at_call 11
          refine (sameBytes_any (bI (encP (mkP X D) (mkQ X D) (mkP Y D) (mkQ Y D))) (bI (encP (mkP X' D') (mkQ X' D') (mkP Y' D') (mkQ Y' D'))) ea0 ea1 _ _ ec0 ec1 _ _ (r1 == 0) v4 rfl rfl (enc_len HCi.out) (enc_len HCj.out) E0_4.out E1_4.out (Nat.le_refl _) (Nat.le_refl _) HSB.out).mono ?_
          rintro e v5 ⟨rfl, hk⟩
          have HB_5 := Lib.hid hk
          go_wp2_with fail
          clear E0_4
          clear E1_4
          have HX_5 := Lib.hid (bt HX_4.out HB_5.out)
          refine hK.out _ _ (⟨(HGi.out _ HX_5.out).1, (HGi.out _ HX_5.out).2.1, (HGi.out _ HX_5.out).2.2, (HGj.out _ HX_5.out).1, (HGj.out _ HX_5.out).2.1, (HGj.out _ HX_5.out).2.2, HX_5.out⟩) (fun hHeld2 => ?_)
          clear hHeld
          have hHeld := hHeld2
          clear hHeld2 hK K hk HB_5 HX_4
          try simp only [Act.put, List.getElem_toArray, List.getElem_cons_zero, List.getElem_cons_succ, List.setIfInBounds_toArray, List.set_cons_zero, List.set_cons_succ]
          refine wpAnyH_take (i := 13) (v := ?_) rfl (by kernel_rfl) (by kernel_rfl) (by kernel_rfl) (fun _ _ _ h => h) (Or.inl ⟨by kernel_rfl, ?_⟩) (by assumption) ?_
          rotate_left
          · intro w hSw
            (try dsimp only at hSw)
            go_simp
            all_goals (with_reducible rfl)
          try simp only [Act.put, List.getElem_toArray, List.getElem_cons_zero, List.getElem_cons_succ, List.setIfInBounds_toArray, List.set_cons_zero, List.set_cons_succ]
          refine wpAnyH_done (by kernel_rfl) ?_ _
          clear hHeld
          have HX10 := Lib.hid HX_5.out
          obtain ⟨W10, hW10⟩ : ∃ z, z = v5 := ⟨_, rfl⟩
          subst hW10
          go_wp2_with fail
          obtain ⟨v0, hv0⟩ : ∃ z, World.drew W10 = z := ⟨_, rfl⟩
          have HD0 := Lib.hid (show Below W10.heap.size W10 v0 by rw [← hv0]; exact (Below.refl _ _).drew)
          have HX_0 := Lib.hid (bt HX10.out HD0.out)
          refine wp_region_held_drew (S := (fun w' : World => w'.cell? ⟨G, i * 3, none⟩ = some (.int .i64 X) ∧ w'.cell? ⟨G, i * 3 + 1, none⟩ = some (.int .i64 Y) ∧ w'.cell? ⟨G, i * 3 + 2, none⟩ = some (.int .i64 D) ∧ w'.cell? ⟨G, j * 3, none⟩ = some (.int .i64 X') ∧ w'.cell? ⟨G, j * 3 + 1, none⟩ = some (.int .i64 Y') ∧ w'.cell? ⟨G, j * 3 + 2, none⟩ = some (.int .i64 D') ∧ Below WL.heap.size WL w')) (by kernel_rfl) ?_ (fun hHeld => ?_)
          · rw [hv0]
            exact ⟨(HGi.out _ HX_0.out).1, (HGi.out _ HX_0.out).2.1, (HGi.out _ HX_0.out).2.2, (HGj.out _ HX_0.out).1, (HGj.out _ HX_0.out).2.1, (HGj.out _ HX_0.out).2.2, HX_0.out⟩
          rw [hv0] at hHeld ⊢
          clear hv0 HD0
          refine wpAnyH_take (i := 0) (v := ?_) rfl (by kernel_rfl) (by kernel_rfl) (by kernel_rfl) (fun _ _ _ h => h) (Or.inl ⟨by kernel_rfl, ?_⟩) (by assumption) ?_
          rotate_left
          · intro w hSw
            (try dsimp only at hSw)
            go_simp
            all_goals (with_reducible rfl)
          try simp only [Act.put, List.getElem_toArray, List.getElem_cons_zero, List.setIfInBounds_toArray, List.set_cons_zero, List.set_cons_succ]
          refine wpAnyH_take (i := 1) (v := ?_) rfl (by kernel_rfl) (by kernel_rfl) (by kernel_rfl) (fun _ _ _ h => h) (Or.inl ⟨by kernel_rfl, ?_⟩) (by assumption) ?_
          rotate_left
          · intro w hSw
            (try dsimp only at hSw)
            go_simp
            all_goals (with_reducible rfl)
          try simp only [Act.put, List.getElem_toArray, List.getElem_cons_zero, List.getElem_cons_succ, List.setIfInBounds_toArray, List.set_cons_zero, List.set_cons_succ]
          refine wpAnyH_take (i := 2) (v := ?_) rfl (by kernel_rfl) (by kernel_rfl) (by kernel_rfl) (fun _ _ _ h => h) (Or.inl ⟨by kernel_rfl, ?_⟩) (by assumption) ?_
          rotate_left
          · intro w hSw
            (try dsimp only at hSw)
            go_simp
            all_goals (with_reducible rfl)
          try simp only [Act.put, List.getElem_toArray, List.getElem_cons_zero, List.getElem_cons_succ, List.setIfInBounds_toArray, List.set_cons_zero, List.set_cons_succ]
          refine wpAnyH_take (i := 3) (v := ?_) rfl (by kernel_rfl) (by kernel_rfl) (by kernel_rfl) (fun _ _ _ h => h) (Or.inl ⟨by kernel_rfl, ?_⟩) (by assumption) ?_
          rotate_left
          · intro w hSw
            (try dsimp only at hSw)
            go_simp
            all_goals (with_reducible rfl)
          try simp only [Act.put, List.getElem_toArray, List.getElem_cons_zero, List.getElem_cons_succ, List.setIfInBounds_toArray, List.set_cons_zero, List.set_cons_succ]
          refine wpAnyH_take (i := 4) (v := ?_) rfl (by kernel_rfl) (by kernel_rfl) (by kernel_rfl) (fun _ _ _ h => h) (Or.inl ⟨by kernel_rfl, ?_⟩) (by assumption) ?_
          rotate_left
          · intro w hSw
            (try dsimp only at hSw)
            go_simp
            all_goals (with_reducible rfl)
          try simp only [Act.put, List.getElem_toArray, List.getElem_cons_zero, List.getElem_cons_succ, List.setIfInBounds_toArray, List.set_cons_zero, List.set_cons_succ]
          refine wpAnyH_take (i := 5) (v := ?_) rfl (by kernel_rfl) (by kernel_rfl) (by kernel_rfl) (fun _ _ _ h => h) (Or.inl ⟨by kernel_rfl, ?_⟩) (by assumption) ?_
          rotate_left
          · intro w hSw
            (try dsimp only at hSw)
            go_simp
            all_goals (with_reducible rfl)
          try simp only [Act.put, List.getElem_toArray, List.getElem_cons_zero, List.getElem_cons_succ, List.setIfInBounds_toArray, List.set_cons_zero, List.set_cons_succ]
          refine wpAnyH_take (i := 6) (v := ?_) rfl (by kernel_rfl) (by kernel_rfl) (by kernel_rfl) (fun _ _ _ h => h) (Or.inl ⟨by kernel_rfl, ?_⟩) (by assumption) ?_
          rotate_left
          · intro w hSw
            (try dsimp only at hSw)
            go_simp
            all_goals (with_reducible rfl)
          try simp only [Act.put, List.getElem_toArray, List.getElem_cons_zero, List.getElem_cons_succ, List.setIfInBounds_toArray, List.set_cons_zero, List.set_cons_succ]
          refine wpAnyH_take (i := 7) (v := ?_) rfl (by kernel_rfl) (by kernel_rfl) (by kernel_rfl) (fun _ _ _ h => h) (Or.inl ⟨by kernel_rfl, ?_⟩) (by assumption) ?_
          rotate_left
          · intro w hSw
            (try dsimp only at hSw)
            go_simp
            all_goals (with_reducible rfl)
          try simp only [Act.put, List.getElem_toArray, List.getElem_cons_zero, List.getElem_cons_succ, List.setIfInBounds_toArray, List.set_cons_zero, List.set_cons_succ]
          refine wpAnyH_take (i := 8) (v := ?_) rfl (by kernel_rfl) (by kernel_rfl) (by kernel_rfl) (fun _ _ _ h => h) (Or.inl ⟨by kernel_rfl, ?_⟩) (by assumption) ?_
          rotate_left
          · intro w hSw
            (try dsimp only at hSw)
            go_simp
            all_goals (with_reducible rfl)
          try simp only [Act.put, List.getElem_toArray, List.getElem_cons_zero, List.getElem_cons_succ, List.setIfInBounds_toArray, List.set_cons_zero, List.set_cons_succ]
          refine wpAnyH_ready (rs := [9]) (by kernel_rfl) (by simp) ?_
          refine AllReadyH.cons rfl (fun K hK => ?_) AllReadyH.nil
          go_simp
          go_at_call 13
          refine (rcmp_any X Y D X' Y' D' v0 HCi.out HCj.out).mono ?_
          rw [HR1.out]
          rintro e v1 ⟨rfl, hk⟩
          have HB_1 := Lib.hid hk
          go_wp2_with fail
          have HX_1 := Lib.hid (bt HX_0.out HB_1.out)
          refine hK.out _ _ (⟨(HGi.out _ HX_1.out).1, (HGi.out _ HX_1.out).2.1, (HGi.out _ HX_1.out).2.2, (HGj.out _ HX_1.out).1, (HGj.out _ HX_1.out).2.1, (HGj.out _ HX_1.out).2.2, HX_1.out⟩) (fun hHeld2 => ?_)
          clear hHeld
          have hHeld := hHeld2
          clear hHeld2 hK K hk HB_1 HX_0
          try simp only [Act.put, List.getElem_toArray, List.getElem_cons_zero, List.getElem_cons_succ, List.setIfInBounds_toArray, List.set_cons_zero, List.set_cons_succ]
          refine wpAnyH_take (i := 10) (v := ?_) rfl (by kernel_rfl) (by kernel_rfl) (by kernel_rfl) (fun _ _ _ h => h) (Or.inl ⟨by kernel_rfl, ?_⟩) (by assumption) ?_
          rotate_left
          · intro w hSw
            (try dsimp only at hSw)
            go_simp
            all_goals (with_reducible rfl)
          try simp only [Act.put, List.getElem_toArray, List.getElem_cons_zero, List.getElem_cons_succ, List.setIfInBounds_toArray, List.set_cons_zero, List.set_cons_succ]
          refine wpAnyH_take (i := 11) (v := ?_) rfl (by kernel_rfl) (by kernel_rfl) (by kernel_rfl) (fun _ _ _ h => h) (Or.inl ⟨by kernel_rfl, ?_⟩) (by assumption) ?_
          rotate_left
          · intro w hSw
            (try dsimp only at hSw)
            go_simp
            all_goals (with_reducible rfl)
          try simp only [Act.put, List.getElem_toArray, List.getElem_cons_zero, List.getElem_cons_succ, List.setIfInBounds_toArray, List.set_cons_zero, List.set_cons_succ]
          refine wpAnyH_take (i := 12) (v := ?_) rfl (by kernel_rfl) (by kernel_rfl) (by kernel_rfl) (fun _ _ _ h => h) (Or.inl ⟨by kernel_rfl, ?_⟩) (by assumption) ?_
          rotate_left
          · intro w hSw
            (try dsimp only at hSw)
            go_simp
            all_goals (with_reducible rfl)
          try simp only [Act.put, List.getElem_toArray, List.getElem_cons_zero, List.getElem_cons_succ, List.setIfInBounds_toArray, List.set_cons_zero, List.set_cons_succ]
          refine wpAnyH_take (i := 13) (v := ?_) rfl (by kernel_rfl) (by kernel_rfl) (by kernel_rfl) (fun _ _ _ h => h) (Or.inl ⟨by kernel_rfl, ?_⟩) (by assumption) ?_
          rotate_left
          · intro w hSw
            (try dsimp only at hSw)
            go_simp
            all_goals (with_reducible rfl)
          try simp only [Act.put, List.getElem_toArray, List.getElem_cons_zero, List.getElem_cons_succ, List.setIfInBounds_toArray, List.set_cons_zero, List.set_cons_succ]
          refine wpAnyH_take (i := 14) (v := ?_) rfl (by kernel_rfl) (by kernel_rfl) (by kernel_rfl) (fun _ _ _ h => h) (Or.inl ⟨by kernel_rfl, ?_⟩) (by assumption) ?_
          rotate_left
          · intro w hSw
            (try dsimp only at hSw)
            go_simp
            all_goals (with_reducible rfl)
          try simp only [Act.put, List.getElem_toArray, List.getElem_cons_zero, List.getElem_cons_succ, List.setIfInBounds_toArray, List.set_cons_zero, List.set_cons_succ]
          refine wpAnyH_take (i := 15) (v := ?_) rfl (by kernel_rfl) (by kernel_rfl) (by kernel_rfl) (fun _ _ _ h => h) (Or.inl ⟨by kernel_rfl, ?_⟩) (by assumption) ?_
          rotate_left
          · intro w hSw
            (try dsimp only at hSw)
            go_simp
            all_goals (with_reducible rfl)
          try simp only [Act.put, List.getElem_toArray, List.getElem_cons_zero, List.getElem_cons_succ, List.setIfInBounds_toArray, List.set_cons_zero, List.set_cons_succ]
          refine wpAnyH_take (i := 17) (v := ?_) rfl (by kernel_rfl) (by kernel_rfl) (by kernel_rfl) (fun _ _ _ h => h) (Or.inl ⟨by kernel_rfl, ?_⟩) (by assumption) ?_
          rotate_left
          · intro w hSw
            (try dsimp only at hSw)
            go_simp
            all_goals (with_reducible rfl)
          try simp only [Act.put, List.getElem_toArray, List.getElem_cons_zero, List.getElem_cons_succ, List.setIfInBounds_toArray, List.set_cons_zero, List.set_cons_succ]
          refine wpAnyH_take (i := 18) (v := ?_) rfl (by kernel_rfl) (by kernel_rfl) (by kernel_rfl) (fun _ _ _ h => h) (Or.inl ⟨by kernel_rfl, ?_⟩) (by assumption) ?_
          rotate_left
          · intro w hSw
            (try dsimp only at hSw)
            go_simp
            all_goals (with_reducible rfl)
          try simp only [Act.put, List.getElem_toArray, List.getElem_cons_zero, List.getElem_cons_succ, List.setIfInBounds_toArray, List.set_cons_zero, List.set_cons_succ]
          refine wpAnyH_take (i := 19) (v := ?_) rfl (by kernel_rfl) (by kernel_rfl) (by kernel_rfl) (fun _ _ _ h => h) (Or.inl ⟨by kernel_rfl, ?_⟩) (by assumption) ?_
          rotate_left
          · intro w hSw
            (try dsimp only at hSw)
            go_simp
            all_goals (with_reducible rfl)
          try simp only [Act.put, List.getElem_toArray, List.getElem_cons_zero, List.getElem_cons_succ, List.setIfInBounds_toArray, List.set_cons_zero, List.set_cons_succ]
          refine wpAnyH_take (i := 20) (v := ?_) rfl (by kernel_rfl) (by kernel_rfl) (by kernel_rfl) (fun _ _ _ h => h) (Or.inl ⟨by kernel_rfl, ?_⟩) (by assumption) ?_
          rotate_left
          · intro w hSw
            (try dsimp only at hSw)
            go_simp
            all_goals (with_reducible rfl)
          try simp only [Act.put, List.getElem_toArray, List.getElem_cons_zero, List.getElem_cons_succ, List.setIfInBounds_toArray, List.set_cons_zero, List.set_cons_succ]
          refine wpAnyH_take (i := 23) (v := ?_) rfl (by kernel_rfl) (by kernel_rfl) (by kernel_rfl) (fun _ _ _ h => h) (Or.inl ⟨by kernel_rfl, ?_⟩) (by assumption) ?_
          rotate_left
          · intro w hSw
            (try dsimp only at hSw)
            go_simp
            all_goals (with_reducible rfl)
          try simp only [Act.put, List.getElem_toArray, List.getElem_cons_zero, List.getElem_cons_succ, List.setIfInBounds_toArray, List.set_cons_zero, List.set_cons_succ]
          refine wpAnyH_take (i := 24) (v := .int .i64 (-r1)) rfl (by kernel_rfl) (by kernel_rfl) (by kernel_rfl) (fun _ _ _ h => h) (Or.inl ⟨by kernel_rfl, ?_⟩) (by assumption) ?_
          · intro w hSw
            (try dsimp only at hSw)
            go_simp
            all_goals (first | exact HNG.out | (rw [HNG.out]; with_reducible rfl))
          try simp only [Act.put, List.getElem_toArray, List.getElem_cons_zero, List.getElem_cons_succ, List.setIfInBounds_toArray, List.set_cons_zero, List.set_cons_succ]
          refine wpAnyH_ready (rs := [16]) (by kernel_rfl) (by simp) ?_
          refine AllReadyH.cons rfl (fun K hK => ?_) AllReadyH.nil
          go_simp
          go_at_call 10
          refine (real_any X' Y' D' v1 (md_wf (sbmd HCj.out)).1 (md_wf (sbmd HCj.out)).2.1 (md_wf (sbmd HCj.out)).2.2).mono ?_
          rintro e v2 ⟨s0, A0, n0, c0, t0, B0, m0, d0, s1, A1, n1, c1, t1, B1, m1, d1, rfl, hr1, hr2, hk⟩
          have F0_2 := Lib.hid (hr1)
          have F1_2 := Lib.hid (hr2)
          have HB_2 := Lib.hid hk
          go_wp2_with fail
          have HX_2 := Lib.hid (bt HX_1.out HB_2.out)
          refine hK.out _ _ (⟨(HGi.out _ HX_2.out).1, (HGi.out _ HX_2.out).2.1, (HGi.out _ HX_2.out).2.2, (HGj.out _ HX_2.out).1, (HGj.out _ HX_2.out).2.1, (HGj.out _ HX_2.out).2.2, HX_2.out⟩) (fun hHeld2 => ?_)
          clear hHeld
          have hHeld := hHeld2
          clear hHeld2 hK K hk HB_2 hr1 hr2 HX_1
          try simp only [Act.put, List.getElem_toArray, List.getElem_cons_zero, List.getElem_cons_succ, List.setIfInBounds_toArray, List.set_cons_zero, List.set_cons_succ]
          refine wpAnyH_ready (rs := [21]) (by kernel_rfl) (by simp) ?_
          refine AllReadyH.cons rfl (fun K hK => ?_) AllReadyH.nil
          go_simp
          go_at_call 10
          refine (real_any X Y D v2 (md_wf (sbmd HCi.out)).1 (md_wf (sbmd HCi.out)).2.1 (md_wf (sbmd HCi.out)).2.2).mono ?_
          rintro e v3 ⟨s2, A2, n2, c2, t2, B2, m2, d2, s3, A3, n3, c3, t3, B3, m3, d3, rfl, hr1, hr2, hk⟩
          have F2_3 := Lib.hid (hr1)
          have F3_3 := Lib.hid (hr2)
          have HB_3 := Lib.hid hk
          go_wp2_with fail
          have HX_3 := Lib.hid (bt HX_2.out HB_3.out)
          have F0_3 := Lib.hid ((F0_2.out).new HB_3.out)
          have F1_3 := Lib.hid ((F1_2.out).new HB_3.out)
          refine hK.out _ _ (⟨(HGi.out _ HX_3.out).1, (HGi.out _ HX_3.out).2.1, (HGi.out _ HX_3.out).2.2, (HGj.out _ HX_3.out).1, (HGj.out _ HX_3.out).2.1, (HGj.out _ HX_3.out).2.2, HX_3.out⟩) (fun hHeld2 => ?_)
          clear hHeld
          have hHeld := hHeld2
          clear hHeld2 hK K hk HB_3 hr1 hr2 HX_2 F0_2 F1_2
          try simp only [Act.put, List.getElem_toArray, List.getElem_cons_zero, List.getElem_cons_succ, List.setIfInBounds_toArray, List.set_cons_zero, List.set_cons_succ]
          refine wpAnyH_ready (rs := [22]) (by kernel_rfl) (by simp) ?_
          refine AllReadyH.cons rfl (fun K hK => ?_) AllReadyH.nil
          go_simp
          go_at_call 9
          refine (ptcompare_any (mkP X' D') (mkQ X' D') (mkP Y' D') (mkQ Y' D') (mkP X D) (mkQ X D) (mkP Y D) (mkQ Y D) s0 A0 n0 c0 t0 B0 m0 d0 s1 A1 n1 c1 t1 B1 m1 d1 s2 A2 n2 c2 t2 B2 m2 d2 s3 A3 n3 c3 t3 B3 m3 d3 v3 F0_3.out F1_3.out F2_3.out F3_3.out ⟨(md_lims (sbmd HCj.out)).1, (md_lims (sbmd HCj.out)).2, (md_lims (sbmd HCi.out)).1, (md_lims (sbmd HCi.out)).2⟩).mono ?_
          rw [pc_rc HCj.out.1.1 HCi.out.1.1, HSW.out]
          rintro e v4 ⟨rfl, hk⟩
          have HB_4 := Lib.hid hk
          go_wp2_with fail
          clear F0_3
          clear F1_3
          clear F2_3
          clear F3_3
          have HX_4 := Lib.hid (bt HX_3.out HB_4.out)
          refine hK.out _ _ (⟨(HGi.out _ HX_4.out).1, (HGi.out _ HX_4.out).2.1, (HGi.out _ HX_4.out).2.2, (HGj.out _ HX_4.out).1, (HGj.out _ HX_4.out).2.1, (HGj.out _ HX_4.out).2.2, HX_4.out⟩) (fun hHeld2 => ?_)
          clear hHeld
          have hHeld := hHeld2
          clear hHeld2 hK K hk HB_4 HX_3
          try simp only [Act.put, List.getElem_toArray, List.getElem_cons_zero, List.getElem_cons_succ, List.setIfInBounds_toArray, List.set_cons_zero, List.set_cons_succ]
          refine wpAnyH_take (i := 25) (v := ?_) rfl (by kernel_rfl) (by kernel_rfl) (by kernel_rfl) (fun _ _ _ h => h) (Or.inl ⟨by kernel_rfl, ?_⟩) (by assumption) ?_
          rotate_left
          · intro w hSw
            (try dsimp only at hSw)
            go_simp
            all_goals (with_reducible rfl)
          try simp only [Act.put, List.getElem_toArray, List.getElem_cons_zero, List.getElem_cons_succ, List.setIfInBounds_toArray, List.set_cons_zero, List.set_cons_succ]
          refine wpAnyH_take (i := 26) (v := ?_) rfl (by kernel_rfl) (by kernel_rfl) (by kernel_rfl) (fun _ _ _ h => h) (Or.inl ⟨by kernel_rfl, ?_⟩) (by assumption) ?_
          rotate_left
          · intro w hSw
            (try dsimp only at hSw)
            go_simp
            all_goals (with_reducible rfl)
          try simp only [Act.put, List.getElem_toArray, List.getElem_cons_zero, List.getElem_cons_succ, List.setIfInBounds_toArray, List.set_cons_zero, List.set_cons_succ]
          refine wpAnyH_take (i := 27) (v := ?_) rfl (by kernel_rfl) (by kernel_rfl) (by kernel_rfl) (fun _ _ _ h => h) (Or.inl ⟨by kernel_rfl, ?_⟩) (by assumption) ?_
          rotate_left
          · intro w hSw
            (try dsimp only at hSw)
            go_simp
            all_goals (with_reducible rfl)
          try simp only [Act.put, List.getElem_toArray, List.getElem_cons_zero, List.getElem_cons_succ, List.setIfInBounds_toArray, List.set_cons_zero, List.set_cons_succ]
          refine wpAnyH_take (i := 28) (v := ?_) rfl (by kernel_rfl) (by kernel_rfl) (by kernel_rfl) (fun _ _ _ h => h) (Or.inl ⟨by kernel_rfl, ?_⟩) (by assumption) ?_
          rotate_left
          · intro w hSw
            (try dsimp only at hSw)
            go_simp
            all_goals (with_reducible rfl)
          try simp only [Act.put, List.getElem_toArray, List.getElem_cons_zero, List.getElem_cons_succ, List.setIfInBounds_toArray, List.set_cons_zero, List.set_cons_succ]
          refine wpAnyH_take (i := 29) (v := ?_) rfl (by kernel_rfl) (by kernel_rfl) (by kernel_rfl) (fun _ _ _ h => h) (Or.inl ⟨by kernel_rfl, ?_⟩) (by assumption) ?_
          rotate_left
          · intro w hSw
            (try dsimp only at hSw)
            go_simp
            all_goals (with_reducible rfl)
          try simp only [Act.put, List.getElem_toArray, List.getElem_cons_zero, List.getElem_cons_succ, List.setIfInBounds_toArray, List.set_cons_zero, List.set_cons_succ]
          refine wpAnyH_take (i := 30) (v := ?_) rfl (by kernel_rfl) (by kernel_rfl) (by kernel_rfl) (fun _ _ _ h => h) (Or.inl ⟨by kernel_rfl, ?_⟩) (by assumption) ?_
          rotate_left
          · intro w hSw
            (try dsimp only at hSw)
            go_simp
            all_goals (with_reducible rfl)
          try simp only [Act.put, List.getElem_toArray, List.getElem_cons_zero, List.getElem_cons_succ, List.setIfInBounds_toArray, List.set_cons_zero, List.set_cons_succ]
          refine wpAnyH_take (i := 31) (v := ?_) rfl (by kernel_rfl) (by kernel_rfl) (by kernel_rfl) (fun _ _ _ h => h) (Or.inl ⟨by kernel_rfl, ?_⟩) (by assumption) ?_
          rotate_left
          · intro w hSw
            (try dsimp only at hSw)
            go_simp
            all_goals (with_reducible rfl)
          try simp only [Act.put, List.getElem_toArray, List.getElem_cons_zero, List.getElem_cons_succ, List.setIfInBounds_toArray, List.set_cons_zero, List.set_cons_succ]
          refine wpAnyH_take (i := 32) (v := ?_) rfl (by kernel_rfl) (by kernel_rfl) (by kernel_rfl) (fun _ _ _ h => h) (Or.inl ⟨by kernel_rfl, ?_⟩) (by assumption) ?_
          rotate_left
          · intro w hSw
            (try dsimp only at hSw)
            go_simp
            all_goals (with_reducible rfl)
          try simp only [Act.put, List.getElem_toArray, List.getElem_cons_zero, List.getElem_cons_succ, List.setIfInBounds_toArray, List.set_cons_zero, List.set_cons_succ]
          refine wpAnyH_done (by kernel_rfl) ?_ _
          clear hHeld
          have HX11 := Lib.hid HX_4.out
          obtain ⟨W11, hW11⟩ : ∃ z, z = v4 := ⟨_, rfl⟩
          subst hW11
          go_wp2_with fail
          clear HSB HSW HNG HX9 HX10 HB
          go_loopw [12] (fun tv wr => ∃ k : Nat, k ≤ 4 ∧ tv = .int .i64 (k : Int) ∧ Below WL.heap.size WL wr) (fun tv _ => 4 - (intOf tv).toNat)
          case atStart => exact ⟨0, by omega, rfl, HX11.out⟩
          case round =>
            clear HX11
            obtain ⟨k, hk4, rfl, hbel⟩ := hrel
            have HB := Lib.hid hbel
            clear hbel
            by_cases hkl : k < 4
            · have h0k : (0 : Int) ≤ (k : Int) := by omega
              have h4k : (k : Int) < 4 := by omega
              obtain ⟨X'', Y'', D'', hp, hm⟩ := gets HLc.out.1 hkl HLc.out.2
              have HGk := Lib.hid (fun (w' : World) (hb : Below WL.heap.size WL w') => (HL.out.new hb).get3 hp)
              have HCk := Lib.hid hm
              clear hp hm
              obtain ⟨r2, hr2⟩ : ∃ z, rcV X' Y' D' X'' Y'' D'' = z := ⟨_, rfl⟩
              obtain ⟨r3, hr3⟩ : ∃ z, rcV X Y D X'' Y'' D'' = z := ⟨_, rfl⟩
              have HR2 := Lib.hid hr2
              have HR3 := Lib.hid hr3
              have HTR := Lib.hid (show r1 ≤ 0 → r2 ≤ 0 → r3 ≤ 0 by
                intro h1 h2
                rw [← HR1.out] at h1
                rw [← hr2] at h2
                rw [← hr3]
                exact rc_trans HCi.out.1.1 HCj.out.1.1 HCk.out.1.1 h1 h2)
              clear hr2 hr3
              by_cases hq1 : r1 ≤ 0
              · have HP1 := Lib.hid (show decide (r1 ≤ 0) = true from decide_eq_true hq1)
                by_cases hq2 : r2 ≤ 0
                · have HP2 := Lib.hid (show decide (r2 ≤ 0) = true from decide_eq_true hq2)
                  have HP3 := Lib.hid (show decide (0 < r3) = false from decide_eq_false (by have := HTR.out hq1 hq2; omega))
                  clear hq1 hq2
                  go_wp2_with fail
                  obtain ⟨v0, hv0⟩ : ∃ z, World.drew wr = z := ⟨_, rfl⟩
                  have HD0 := Lib.hid (show Below wr.heap.size wr v0 by rw [← hv0]; exact (Below.refl _ _).drew)
                  have HX_0 := Lib.hid (bt HB.out HD0.out)
                  refine wp_region_held_drew (S := (fun w' : World => w'.cell? ⟨G, i * 3, none⟩ = some (.int .i64 X) ∧ w'.cell? ⟨G, i * 3 + 1, none⟩ = some (.int .i64 Y) ∧ w'.cell? ⟨G, i * 3 + 2, none⟩ = some (.int .i64 D) ∧ w'.cell? ⟨G, j * 3, none⟩ = some (.int .i64 X') ∧ w'.cell? ⟨G, j * 3 + 1, none⟩ = some (.int .i64 Y') ∧ w'.cell? ⟨G, j * 3 + 2, none⟩ = some (.int .i64 D') ∧ w'.cell? ⟨G, k * 3, none⟩ = some (.int .i64 X'') ∧ w'.cell? ⟨G, k * 3 + 1, none⟩ = some (.int .i64 Y'') ∧ w'.cell? ⟨G, k * 3 + 2, none⟩ = some (.int .i64 D'') ∧ Below WL.heap.size WL w')) (by kernel_rfl) ?_ (fun hHeld => ?_)
                  · rw [hv0]
                    exact ⟨(HGi.out _ HX_0.out).1, (HGi.out _ HX_0.out).2.1, (HGi.out _ HX_0.out).2.2, (HGj.out _ HX_0.out).1, (HGj.out _ HX_0.out).2.1, (HGj.out _ HX_0.out).2.2, (HGk.out _ HX_0.out).1, (HGk.out _ HX_0.out).2.1, (HGk.out _ HX_0.out).2.2, HX_0.out⟩
                  rw [hv0] at hHeld ⊢
                  clear hv0 HD0
                  refine wpAnyH_take (i := 0) (v := ?_) rfl (by kernel_rfl) (by kernel_rfl) (by kernel_rfl) (fun _ _ _ h => h) (Or.inl ⟨by kernel_rfl, ?_⟩) (by assumption) ?_
                  rotate_left
                  · intro w hSw
                    (try dsimp only at hSw)
                    go_simp
                    all_goals (with_reducible rfl)
                  try simp only [Act.put, List.getElem_toArray, List.getElem_cons_zero, List.setIfInBounds_toArray, List.set_cons_zero, List.set_cons_succ]
                  refine wpAnyH_take (i := 1) (v := .bool true) rfl (by kernel_rfl) (by kernel_rfl) (by kernel_rfl) (fun _ _ _ h => h) (Or.inl ⟨by kernel_rfl, ?_⟩) (by assumption) ?_
                  · intro w hSw
                    (try dsimp only at hSw)
                    go_simp
                    all_goals (first | exact HP1.out | (have := HP1.out; simp_all) | (simp; have := HP1.out; omega))
                  try simp only [Act.put, List.getElem_toArray, List.getElem_cons_zero, List.getElem_cons_succ, List.setIfInBounds_toArray, List.set_cons_zero, List.set_cons_succ]
                  refine wpAnyH_take (i := 2) (v := ?_) rfl (by kernel_rfl) (by kernel_rfl) (by kernel_rfl) (fun _ _ _ h => h) (Or.inl ⟨by kernel_rfl, ?_⟩) (by assumption) ?_
                  rotate_left
                  · intro w hSw
                    (try dsimp only at hSw)
                    go_simp
                    all_goals (with_reducible rfl)
                  try simp only [Act.put, List.getElem_toArray, List.getElem_cons_zero, List.getElem_cons_succ, List.setIfInBounds_toArray, List.set_cons_zero, List.set_cons_succ]
                  refine wpAnyH_take (i := 3) (v := ?_) rfl (by kernel_rfl) (by kernel_rfl) (by kernel_rfl) (fun _ _ _ h => h) (Or.inl ⟨by kernel_rfl, ?_⟩) (by assumption) ?_
                  rotate_left
                  · intro w hSw
                    (try dsimp only at hSw)
                    go_simp
                    all_goals (with_reducible rfl)
                  try simp only [Act.put, List.getElem_toArray, List.getElem_cons_zero, List.getElem_cons_succ, List.setIfInBounds_toArray, List.set_cons_zero, List.set_cons_succ]
                  refine wpAnyH_take (i := 4) (v := ?_) rfl (by kernel_rfl) (by kernel_rfl) (by kernel_rfl) (fun _ _ _ h => h) (Or.inl ⟨by kernel_rfl, ?_⟩) (by assumption) ?_
                  rotate_left
                  · intro w hSw
                    (try dsimp only at hSw)
                    go_simp
                    all_goals (with_reducible rfl)
                  try simp only [Act.put, List.getElem_toArray, List.getElem_cons_zero, List.getElem_cons_succ, List.setIfInBounds_toArray, List.set_cons_zero, List.set_cons_succ]
                  refine wpAnyH_take (i := 5) (v := ?_) rfl (by kernel_rfl) (by kernel_rfl) (by kernel_rfl) (fun _ _ _ h => h) (Or.inl ⟨by kernel_rfl, ?_⟩) (by assumption) ?_
                  rotate_left
                  · intro w hSw
                    (try dsimp only at hSw)
                    go_simp
                    all_goals (with_reducible rfl)
                  try simp only [Act.put, List.getElem_toArray, List.getElem_cons_zero, List.getElem_cons_succ, List.setIfInBounds_toArray, List.set_cons_zero, List.set_cons_succ]
                  refine wpAnyH_take (i := 6) (v := ?_) rfl (by kernel_rfl) (by kernel_rfl) (by kernel_rfl) (fun _ _ _ h => h) (Or.inl ⟨by kernel_rfl, ?_⟩) (by assumption) ?_
                  rotate_left
                  · intro w hSw
                    (try dsimp only at hSw)
                    go_simp
                    all_goals (with_reducible rfl)
                  try simp only [Act.put, List.getElem_toArray, List.getElem_cons_zero, List.getElem_cons_succ, List.setIfInBounds_toArray, List.set_cons_zero, List.set_cons_succ]
                  refine wpAnyH_take (i := 8) (v := ?_) rfl (by kernel_rfl) (by kernel_rfl) (by kernel_rfl) (fun _ _ _ h => h) (Or.inl ⟨by kernel_rfl, ?_⟩) (by assumption) ?_
                  rotate_left
                  · intro w hSw
                    (try dsimp only at hSw)
                    go_simp
                    all_goals (with_reducible rfl)
                  try simp only [Act.put, List.getElem_toArray, List.getElem_cons_zero, List.getElem_cons_succ, List.setIfInBounds_toArray, List.set_cons_zero, List.set_cons_succ]
                  refine wpAnyH_take (i := 9) (v := ?_) rfl (by kernel_rfl) (by kernel_rfl) (by kernel_rfl) (fun _ _ _ h => h) (Or.inl ⟨by kernel_rfl, ?_⟩) (by assumption) ?_
                  rotate_left
                  · intro w hSw
                    (try dsimp only at hSw)
                    go_simp
                    all_goals (with_reducible rfl)
                  try simp only [Act.put, List.getElem_toArray, List.getElem_cons_zero, List.getElem_cons_succ, List.setIfInBounds_toArray, List.set_cons_zero, List.set_cons_succ]
                  refine wpAnyH_take (i := 10) (v := ?_) rfl (by kernel_rfl) (by kernel_rfl) (by kernel_rfl) (fun _ _ _ h => h) (Or.inl ⟨by kernel_rfl, ?_⟩) (by assumption) ?_
                  rotate_left
                  · intro w hSw
                    (try dsimp only at hSw)
                    go_simp
                    all_goals (with_reducible rfl)
                  try simp only [Act.put, List.getElem_toArray, List.getElem_cons_zero, List.getElem_cons_succ, List.setIfInBounds_toArray, List.set_cons_zero, List.set_cons_succ]
                  refine wpAnyH_take (i := 11) (v := ?_) rfl (by kernel_rfl) (by kernel_rfl) (by kernel_rfl) (fun _ _ _ h => h) (Or.inl ⟨by kernel_rfl, ?_⟩) (by assumption) ?_
                  rotate_left
                  · intro w hSw
                    (try dsimp only at hSw)
                    go_simp
                    all_goals (with_reducible rfl)
                  try simp only [Act.put, List.getElem_toArray, List.getElem_cons_zero, List.getElem_cons_succ, List.setIfInBounds_toArray, List.set_cons_zero, List.set_cons_succ]
                  refine wpAnyH_ready (rs := [7]) (by kernel_rfl) (by simp) ?_
                  refine AllReadyH.cons rfl (fun K hK => ?_) AllReadyH.nil
                  go_simp
                  go_at_call 10
                  refine (real_any X' Y' D' v0 (md_wf (sbmd HCj.out)).1 (md_wf (sbmd HCj.out)).2.1 (md_wf (sbmd HCj.out)).2.2).mono ?_
                  rintro e v1 ⟨s0, A0, n0, c0, t0, B0, m0, d0, s1, A1, n1, c1, t1, B1, m1, d1, rfl, hr1, hr2, hk⟩
                  have F0_1 := Lib.hid (hr1)
                  have F1_1 := Lib.hid (hr2)
                  have HB_1 := Lib.hid hk
                  go_wp2_with fail
                  have HX_1 := Lib.hid (bt HX_0.out HB_1.out)
                  refine hK.out _ _ (⟨(HGi.out _ HX_1.out).1, (HGi.out _ HX_1.out).2.1, (HGi.out _ HX_1.out).2.2, (HGj.out _ HX_1.out).1, (HGj.out _ HX_1.out).2.1, (HGj.out _ HX_1.out).2.2, (HGk.out _ HX_1.out).1, (HGk.out _ HX_1.out).2.1, (HGk.out _ HX_1.out).2.2, HX_1.out⟩) (fun hHeld2 => ?_)
                  clear hHeld
                  have hHeld := hHeld2
                  clear hHeld2 hK K hk HB_1 hr1 hr2 HX_0
                  try simp only [Act.put, List.getElem_toArray, List.getElem_cons_zero, List.getElem_cons_succ, List.setIfInBounds_toArray, List.set_cons_zero, List.set_cons_succ]
                  refine wpAnyH_ready (rs := [12]) (by kernel_rfl) (by simp) ?_
                  refine AllReadyH.cons rfl (fun K hK => ?_) AllReadyH.nil
                  go_simp
                  go_at_call 10
                  refine (real_any X'' Y'' D'' v1 (md_wf (sbmd HCk.out)).1 (md_wf (sbmd HCk.out)).2.1 (md_wf (sbmd HCk.out)).2.2).mono ?_
                  rintro e v2 ⟨s2, A2, n2, c2, t2, B2, m2, d2, s3, A3, n3, c3, t3, B3, m3, d3, rfl, hr1, hr2, hk⟩
                  have F2_2 := Lib.hid (hr1)
                  have F3_2 := Lib.hid (hr2)
                  have HB_2 := Lib.hid hk
                  go_wp2_with fail
                  have HX_2 := Lib.hid (bt HX_1.out HB_2.out)
                  have F0_2 := Lib.hid ((F0_1.out).new HB_2.out)
                  have F1_2 := Lib.hid ((F1_1.out).new HB_2.out)
                  refine hK.out _ _ (⟨(HGi.out _ HX_2.out).1, (HGi.out _ HX_2.out).2.1, (HGi.out _ HX_2.out).2.2, (HGj.out _ HX_2.out).1, (HGj.out _ HX_2.out).2.1, (HGj.out _ HX_2.out).2.2, (HGk.out _ HX_2.out).1, (HGk.out _ HX_2.out).2.1, (HGk.out _ HX_2.out).2.2, HX_2.out⟩) (fun hHeld2 => ?_)
                  clear hHeld
                  have hHeld := hHeld2
                  clear hHeld2 hK K hk HB_2 hr1 hr2 HX_1 F0_1 F1_1
                  try simp only [Act.put, List.getElem_toArray, List.getElem_cons_zero, List.getElem_cons_succ, List.setIfInBounds_toArray, List.set_cons_zero, List.set_cons_succ]
                  refine wpAnyH_ready (rs := [13]) (by kernel_rfl) (by simp) ?_
                  refine AllReadyH.cons rfl (fun K hK => ?_) AllReadyH.nil
                  go_simp
                  go_at_call 9
                  refine (ptcompare_any (mkP X' D') (mkQ X' D') (mkP Y' D') (mkQ Y' D') (mkP X'' D'') (mkQ X'' D'') (mkP Y'' D'') (mkQ Y'' D'') s0 A0 n0 c0 t0 B0 m0 d0 s1 A1 n1 c1 t1 B1 m1 d1 s2 A2 n2 c2 t2 B2 m2 d2 s3 A3 n3 c3 t3 B3 m3 d3 v2 F0_2.out F1_2.out F2_2.out F3_2.out ⟨(md_lims (sbmd HCj.out)).1, (md_lims (sbmd HCj.out)).2, (md_lims (sbmd HCk.out)).1, (md_lims (sbmd HCk.out)).2⟩).mono ?_
                  rw [pc_rc HCj.out.1.1 HCk.out.1.1, HR2.out]
                  rintro e v3 ⟨rfl, hk⟩
                  have HB_3 := Lib.hid hk
                  go_wp2_with fail
                  clear F0_2
                  clear F1_2
                  clear F2_2
                  clear F3_2
                  have HX_3 := Lib.hid (bt HX_2.out HB_3.out)
                  refine hK.out _ _ (⟨(HGi.out _ HX_3.out).1, (HGi.out _ HX_3.out).2.1, (HGi.out _ HX_3.out).2.2, (HGj.out _ HX_3.out).1, (HGj.out _ HX_3.out).2.1, (HGj.out _ HX_3.out).2.2, (HGk.out _ HX_3.out).1, (HGk.out _ HX_3.out).2.1, (HGk.out _ HX_3.out).2.2, HX_3.out⟩) (fun hHeld2 => ?_)
                  clear hHeld
                  have hHeld := hHeld2
                  clear hHeld2 hK K hk HB_3 HX_2
                  try simp only [Act.put, List.getElem_toArray, List.getElem_cons_zero, List.getElem_cons_succ, List.setIfInBounds_toArray, List.set_cons_zero, List.set_cons_succ]
                  refine wpAnyH_take (i := 14) (v := .bool true) rfl (by kernel_rfl) (by kernel_rfl) (by kernel_rfl) (fun _ _ _ h => h) (Or.inl ⟨by kernel_rfl, ?_⟩) (by assumption) ?_
                  · intro w hSw
                    (try dsimp only at hSw)
                    go_simp
                    all_goals (first | exact HP2.out | (have := HP2.out; simp_all) | (simp; have := HP2.out; omega))
                  try simp only [Act.put, List.getElem_toArray, List.getElem_cons_zero, List.getElem_cons_succ, List.setIfInBounds_toArray, List.set_cons_zero, List.set_cons_succ]
                  refine wpAnyH_take (i := 15) (v := ?_) rfl (by kernel_rfl) (by kernel_rfl) (by kernel_rfl) (fun _ _ _ h => h) (Or.inl ⟨by kernel_rfl, ?_⟩) (by assumption) ?_
                  rotate_left
                  · intro w hSw
                    (try dsimp only at hSw)
                    go_simp
                    all_goals (with_reducible rfl)
                  try simp only [Act.put, List.getElem_toArray, List.getElem_cons_zero, List.getElem_cons_succ, List.setIfInBounds_toArray, List.set_cons_zero, List.set_cons_succ]
                  refine wpAnyH_take (i := 16) (v := ?_) rfl (by kernel_rfl) (by kernel_rfl) (by kernel_rfl) (fun _ _ _ h => h) (Or.inl ⟨by kernel_rfl, ?_⟩) (by assumption) ?_
                  rotate_left
                  · intro w hSw
                    (try dsimp only at hSw)
                    go_simp
                    all_goals (with_reducible rfl)
                  try simp only [Act.put, List.getElem_toArray, List.getElem_cons_zero, List.getElem_cons_succ, List.setIfInBounds_toArray, List.set_cons_zero, List.set_cons_succ]
                  refine wpAnyH_take (i := 17) (v := ?_) rfl (by kernel_rfl) (by kernel_rfl) (by kernel_rfl) (fun _ _ _ h => h) (Or.inl ⟨by kernel_rfl, ?_⟩) (by assumption) ?_
                  rotate_left
                  · intro w hSw
                    (try dsimp only at hSw)
                    go_simp
                    all_goals (with_reducible rfl)
                  try simp only [Act.put, List.getElem_toArray, List.getElem_cons_zero, List.getElem_cons_succ, List.setIfInBounds_toArray, List.set_cons_zero, List.set_cons_succ]
                  refine wpAnyH_take (i := 18) (v := ?_) rfl (by kernel_rfl) (by kernel_rfl) (by kernel_rfl) (fun _ _ _ h => h) (Or.inl ⟨by kernel_rfl, ?_⟩) (by assumption) ?_
                  rotate_left
                  · intro w hSw
                    (try dsimp only at hSw)
                    go_simp
                    all_goals (with_reducible rfl)
                  try simp only [Act.put, List.getElem_toArray, List.getElem_cons_zero, List.getElem_cons_succ, List.setIfInBounds_toArray, List.set_cons_zero, List.set_cons_succ]
                  refine wpAnyH_take (i := 19) (v := ?_) rfl (by kernel_rfl) (by kernel_rfl) (by kernel_rfl) (fun _ _ _ h => h) (Or.inl ⟨by kernel_rfl, ?_⟩) (by assumption) ?_
                  rotate_left
                  · intro w hSw
                    (try dsimp only at hSw)
                    go_simp
                    all_goals (with_reducible rfl)
                  try simp only [Act.put, List.getElem_toArray, List.getElem_cons_zero, List.getElem_cons_succ, List.setIfInBounds_toArray, List.set_cons_zero, List.set_cons_succ]
                  refine wpAnyH_take (i := 20) (v := ?_) rfl (by kernel_rfl) (by kernel_rfl) (by kernel_rfl) (fun _ _ _ h => h) (Or.inl ⟨by kernel_rfl, ?_⟩) (by assumption) ?_
                  rotate_left
                  · intro w hSw
                    (try dsimp only at hSw)
                    go_simp
                    all_goals (with_reducible rfl)
                  try simp only [Act.put, List.getElem_toArray, List.getElem_cons_zero, List.getElem_cons_succ, List.setIfInBounds_toArray, List.set_cons_zero, List.set_cons_succ]
                  refine wpAnyH_take (i := 22) (v := ?_) rfl (by kernel_rfl) (by kernel_rfl) (by kernel_rfl) (fun _ _ _ h => h) (Or.inl ⟨by kernel_rfl, ?_⟩) (by assumption) ?_
                  rotate_left
                  · intro w hSw
                    (try dsimp only at hSw)
                    go_simp
                    all_goals (with_reducible rfl)
                  try simp only [Act.put, List.getElem_toArray, List.getElem_cons_zero, List.getElem_cons_succ, List.setIfInBounds_toArray, List.set_cons_zero, List.set_cons_succ]
                  refine wpAnyH_take (i := 23) (v := ?_) rfl (by kernel_rfl) (by kernel_rfl) (by kernel_rfl) (fun _ _ _ h => h) (Or.inl ⟨by kernel_rfl, ?_⟩) (by assumption) ?_
                  rotate_left
                  · intro w hSw
                    (try dsimp only at hSw)
                    go_simp
                    all_goals (with_reducible rfl)
                  try simp only [Act.put, List.getElem_toArray, List.getElem_cons_zero, List.getElem_cons_succ, List.setIfInBounds_toArray, List.set_cons_zero, List.set_cons_succ]
                  refine wpAnyH_take (i := 24) (v := ?_) rfl (by kernel_rfl) (by kernel_rfl) (by kernel_rfl) (fun _ _ _ h => h) (Or.inl ⟨by kernel_rfl, ?_⟩) (by assumption) ?_
                  rotate_left
                  · intro w hSw
                    (try dsimp only at hSw)
                    go_simp
                    all_goals (with_reducible rfl)
                  try simp only [Act.put, List.getElem_toArray, List.getElem_cons_zero, List.getElem_cons_succ, List.setIfInBounds_toArray, List.set_cons_zero, List.set_cons_succ]
                  refine wpAnyH_take (i := 25) (v := ?_) rfl (by kernel_rfl) (by kernel_rfl) (by kernel_rfl) (fun _ _ _ h => h) (Or.inl ⟨by kernel_rfl, ?_⟩) (by assumption) ?_
                  rotate_left
                  · intro w hSw
                    (try dsimp only at hSw)
                    go_simp
                    all_goals (with_reducible rfl)
                  try simp only [Act.put, List.getElem_toArray, List.getElem_cons_zero, List.getElem_cons_succ, List.setIfInBounds_toArray, List.set_cons_zero, List.set_cons_succ]
                  refine wpAnyH_ready (rs := [21]) (by kernel_rfl) (by simp) ?_
                  refine AllReadyH.cons rfl (fun K hK => ?_) AllReadyH.nil
                  go_simp
                  go_at_call 10
                  refine (real_any X Y D v3 (md_wf (sbmd HCi.out)).1 (md_wf (sbmd HCi.out)).2.1 (md_wf (sbmd HCi.out)).2.2).mono ?_
                  rintro e v4 ⟨s4, A4, n4, c4, t4, B4, m4, d4, s5, A5, n5, c5, t5, B5, m5, d5, rfl, hr1, hr2, hk⟩
                  have F4_4 := Lib.hid (hr1)
                  have F5_4 := Lib.hid (hr2)
                  have HB_4 := Lib.hid hk
                  go_wp2_with fail
                  have HX_4 := Lib.hid (bt HX_3.out HB_4.out)
                  refine hK.out _ _ (⟨(HGi.out _ HX_4.out).1, (HGi.out _ HX_4.out).2.1, (HGi.out _ HX_4.out).2.2, (HGj.out _ HX_4.out).1, (HGj.out _ HX_4.out).2.1, (HGj.out _ HX_4.out).2.2, (HGk.out _ HX_4.out).1, (HGk.out _ HX_4.out).2.1, (HGk.out _ HX_4.out).2.2, HX_4.out⟩) (fun hHeld2 => ?_)
                  clear hHeld
                  have hHeld := hHeld2
                  clear hHeld2 hK K hk HB_4 hr1 hr2 HX_3
                  try simp only [Act.put, List.getElem_toArray, List.getElem_cons_zero, List.getElem_cons_succ, List.setIfInBounds_toArray, List.set_cons_zero, List.set_cons_succ]
                  refine wpAnyH_ready (rs := [26]) (by kernel_rfl) (by simp) ?_
                  refine AllReadyH.cons rfl (fun K hK => ?_) AllReadyH.nil
                  go_simp
                  go_at_call 10
                  refine (real_any X'' Y'' D'' v4 (md_wf (sbmd HCk.out)).1 (md_wf (sbmd HCk.out)).2.1 (md_wf (sbmd HCk.out)).2.2).mono ?_
                  rintro e v5 ⟨s6, A6, n6, c6, t6, B6, m6, d6, s7, A7, n7, c7, t7, B7, m7, d7, rfl, hr1, hr2, hk⟩
                  have F6_5 := Lib.hid (hr1)
                  have F7_5 := Lib.hid (hr2)
                  have HB_5 := Lib.hid hk
                  go_wp2_with fail
                  have HX_5 := Lib.hid (bt HX_4.out HB_5.out)
                  have F4_5 := Lib.hid ((F4_4.out).new HB_5.out)
                  have F5_5 := Lib.hid ((F5_4.out).new HB_5.out)
                  refine hK.out _ _ (⟨(HGi.out _ HX_5.out).1, (HGi.out _ HX_5.out).2.1, (HGi.out _ HX_5.out).2.2, (HGj.out _ HX_5.out).1, (HGj.out _ HX_5.out).2.1, (HGj.out _ HX_5.out).2.2, (HGk.out _ HX_5.out).1, (HGk.out _ HX_5.out).2.1, (HGk.out _ HX_5.out).2.2, HX_5.out⟩) (fun hHeld2 => ?_)
                  clear hHeld
                  have hHeld := hHeld2
                  clear hHeld2 hK K hk HB_5 hr1 hr2 HX_4 F4_4 F5_4
                  try simp only [Act.put, List.getElem_toArray, List.getElem_cons_zero, List.getElem_cons_succ, List.setIfInBounds_toArray, List.set_cons_zero, List.set_cons_succ]
                  refine wpAnyH_ready (rs := [27]) (by kernel_rfl) (by simp) ?_
                  refine AllReadyH.cons rfl (fun K hK => ?_) AllReadyH.nil
                  go_simp
                  go_at_call 9
                  refine (ptcompare_any (mkP X D) (mkQ X D) (mkP Y D) (mkQ Y D) (mkP X'' D'') (mkQ X'' D'') (mkP Y'' D'') (mkQ Y'' D'') s4 A4 n4 c4 t4 B4 m4 d4 s5 A5 n5 c5 t5 B5 m5 d5 s6 A6 n6 c6 t6 B6 m6 d6 s7 A7 n7 c7 t7 B7 m7 d7 v5 F4_5.out F5_5.out F6_5.out F7_5.out ⟨(md_lims (sbmd HCi.out)).1, (md_lims (sbmd HCi.out)).2, (md_lims (sbmd HCk.out)).1, (md_lims (sbmd HCk.out)).2⟩).mono ?_
                  rw [pc_rc HCi.out.1.1 HCk.out.1.1, HR3.out]
                  rintro e v6 ⟨rfl, hk⟩
                  have HB_6 := Lib.hid hk
                  go_wp2_with fail
                  clear F4_5
                  clear F5_5
                  clear F6_5
                  clear F7_5
                  have HX_6 := Lib.hid (bt HX_5.out HB_6.out)
                  refine hK.out _ _ (⟨(HGi.out _ HX_6.out).1, (HGi.out _ HX_6.out).2.1, (HGi.out _ HX_6.out).2.2, (HGj.out _ HX_6.out).1, (HGj.out _ HX_6.out).2.1, (HGj.out _ HX_6.out).2.2, (HGk.out _ HX_6.out).1, (HGk.out _ HX_6.out).2.1, (HGk.out _ HX_6.out).2.2, HX_6.out⟩) (fun hHeld2 => ?_)
                  clear hHeld
                  have hHeld := hHeld2
                  clear hHeld2 hK K hk HB_6 HX_5
                  try simp only [Act.put, List.getElem_toArray, List.getElem_cons_zero, List.getElem_cons_succ, List.setIfInBounds_toArray, List.set_cons_zero, List.set_cons_succ]
                  refine wpAnyH_take (i := 28) (v := .bool false) rfl (by kernel_rfl) (by kernel_rfl) (by kernel_rfl) (fun _ _ _ h => h) (Or.inl ⟨by kernel_rfl, ?_⟩) (by assumption) ?_
                  · intro w hSw
                    (try dsimp only at hSw)
                    go_simp
                    all_goals (first | exact HP3.out | (have := HP3.out; simp_all) | (simp; have := HP3.out; omega))
                  try simp only [Act.put, List.getElem_toArray, List.getElem_cons_zero, List.getElem_cons_succ, List.setIfInBounds_toArray, List.set_cons_zero, List.set_cons_succ]
                  refine wpAnyH_take (i := 29) (v := ?_) rfl (by kernel_rfl) (by kernel_rfl) (by kernel_rfl) (fun _ _ _ h => h) (Or.inl ⟨by kernel_rfl, ?_⟩) (by assumption) ?_
                  rotate_left
                  · intro w hSw
                    (try dsimp only at hSw)
                    go_simp
                    all_goals (with_reducible rfl)
                  try simp only [Act.put, List.getElem_toArray, List.getElem_cons_zero, List.getElem_cons_succ, List.setIfInBounds_toArray, List.set_cons_zero, List.set_cons_succ]
                  refine wpAnyH_done (by kernel_rfl) ?_ _
                  clear hHeld
                  have HBN := Lib.hid HX_6.out
                  go_wp2_with fail
                  go_roundw
                  case rel => exact ⟨k + 1, by omega, by go_num, HBN.out⟩
                  case measure => simp [intOf]; omega
                · have HP2 := Lib.hid (show decide (r2 ≤ 0) = false from decide_eq_false hq2)
                  clear hq1 hq2
                  go_wp2_with fail
                  obtain ⟨v0, hv0⟩ : ∃ z, World.drew wr = z := ⟨_, rfl⟩
                  have HD0 := Lib.hid (show Below wr.heap.size wr v0 by rw [← hv0]; exact (Below.refl _ _).drew)
                  have HX_0 := Lib.hid (bt HB.out HD0.out)
                  refine wp_region_held_drew (S := (fun w' : World => w'.cell? ⟨G, i * 3, none⟩ = some (.int .i64 X) ∧ w'.cell? ⟨G, i * 3 + 1, none⟩ = some (.int .i64 Y) ∧ w'.cell? ⟨G, i * 3 + 2, none⟩ = some (.int .i64 D) ∧ w'.cell? ⟨G, j * 3, none⟩ = some (.int .i64 X') ∧ w'.cell? ⟨G, j * 3 + 1, none⟩ = some (.int .i64 Y') ∧ w'.cell? ⟨G, j * 3 + 2, none⟩ = some (.int .i64 D') ∧ w'.cell? ⟨G, k * 3, none⟩ = some (.int .i64 X'') ∧ w'.cell? ⟨G, k * 3 + 1, none⟩ = some (.int .i64 Y'') ∧ w'.cell? ⟨G, k * 3 + 2, none⟩ = some (.int .i64 D'') ∧ Below WL.heap.size WL w')) (by kernel_rfl) ?_ (fun hHeld => ?_)
                  · rw [hv0]
                    exact ⟨(HGi.out _ HX_0.out).1, (HGi.out _ HX_0.out).2.1, (HGi.out _ HX_0.out).2.2, (HGj.out _ HX_0.out).1, (HGj.out _ HX_0.out).2.1, (HGj.out _ HX_0.out).2.2, (HGk.out _ HX_0.out).1, (HGk.out _ HX_0.out).2.1, (HGk.out _ HX_0.out).2.2, HX_0.out⟩
                  rw [hv0] at hHeld ⊢
                  clear hv0 HD0
                  refine wpAnyH_take (i := 0) (v := ?_) rfl (by kernel_rfl) (by kernel_rfl) (by kernel_rfl) (fun _ _ _ h => h) (Or.inl ⟨by kernel_rfl, ?_⟩) (by assumption) ?_
                  rotate_left
                  · intro w hSw
                    (try dsimp only at hSw)
                    go_simp
                    all_goals (with_reducible rfl)
                  try simp only [Act.put, List.getElem_toArray, List.getElem_cons_zero, List.setIfInBounds_toArray, List.set_cons_zero, List.set_cons_succ]
                  refine wpAnyH_take (i := 1) (v := .bool true) rfl (by kernel_rfl) (by kernel_rfl) (by kernel_rfl) (fun _ _ _ h => h) (Or.inl ⟨by kernel_rfl, ?_⟩) (by assumption) ?_
                  · intro w hSw
                    (try dsimp only at hSw)
                    go_simp
                    all_goals (first | exact HP1.out | (have := HP1.out; simp_all) | (simp; have := HP1.out; omega))
                  try simp only [Act.put, List.getElem_toArray, List.getElem_cons_zero, List.getElem_cons_succ, List.setIfInBounds_toArray, List.set_cons_zero, List.set_cons_succ]
                  refine wpAnyH_take (i := 2) (v := ?_) rfl (by kernel_rfl) (by kernel_rfl) (by kernel_rfl) (fun _ _ _ h => h) (Or.inl ⟨by kernel_rfl, ?_⟩) (by assumption) ?_
                  rotate_left
                  · intro w hSw
                    (try dsimp only at hSw)
                    go_simp
                    all_goals (with_reducible rfl)
                  try simp only [Act.put, List.getElem_toArray, List.getElem_cons_zero, List.getElem_cons_succ, List.setIfInBounds_toArray, List.set_cons_zero, List.set_cons_succ]
                  refine wpAnyH_take (i := 3) (v := ?_) rfl (by kernel_rfl) (by kernel_rfl) (by kernel_rfl) (fun _ _ _ h => h) (Or.inl ⟨by kernel_rfl, ?_⟩) (by assumption) ?_
                  rotate_left
                  · intro w hSw
                    (try dsimp only at hSw)
                    go_simp
                    all_goals (with_reducible rfl)
                  try simp only [Act.put, List.getElem_toArray, List.getElem_cons_zero, List.getElem_cons_succ, List.setIfInBounds_toArray, List.set_cons_zero, List.set_cons_succ]
                  refine wpAnyH_take (i := 4) (v := ?_) rfl (by kernel_rfl) (by kernel_rfl) (by kernel_rfl) (fun _ _ _ h => h) (Or.inl ⟨by kernel_rfl, ?_⟩) (by assumption) ?_
                  rotate_left
                  · intro w hSw
                    (try dsimp only at hSw)
                    go_simp
                    all_goals (with_reducible rfl)
                  try simp only [Act.put, List.getElem_toArray, List.getElem_cons_zero, List.getElem_cons_succ, List.setIfInBounds_toArray, List.set_cons_zero, List.set_cons_succ]
                  refine wpAnyH_take (i := 5) (v := ?_) rfl (by kernel_rfl) (by kernel_rfl) (by kernel_rfl) (fun _ _ _ h => h) (Or.inl ⟨by kernel_rfl, ?_⟩) (by assumption) ?_
                  rotate_left
                  · intro w hSw
                    (try dsimp only at hSw)
                    go_simp
                    all_goals (with_reducible rfl)
                  try simp only [Act.put, List.getElem_toArray, List.getElem_cons_zero, List.getElem_cons_succ, List.setIfInBounds_toArray, List.set_cons_zero, List.set_cons_succ]
                  refine wpAnyH_take (i := 6) (v := ?_) rfl (by kernel_rfl) (by kernel_rfl) (by kernel_rfl) (fun _ _ _ h => h) (Or.inl ⟨by kernel_rfl, ?_⟩) (by assumption) ?_
                  rotate_left
                  · intro w hSw
                    (try dsimp only at hSw)
                    go_simp
                    all_goals (with_reducible rfl)
                  try simp only [Act.put, List.getElem_toArray, List.getElem_cons_zero, List.getElem_cons_succ, List.setIfInBounds_toArray, List.set_cons_zero, List.set_cons_succ]
                  refine wpAnyH_take (i := 8) (v := ?_) rfl (by kernel_rfl) (by kernel_rfl) (by kernel_rfl) (fun _ _ _ h => h) (Or.inl ⟨by kernel_rfl, ?_⟩) (by assumption) ?_
                  rotate_left
                  · intro w hSw
                    (try dsimp only at hSw)
                    go_simp
                    all_goals (with_reducible rfl)
                  try simp only [Act.put, List.getElem_toArray, List.getElem_cons_zero, List.getElem_cons_succ, List.setIfInBounds_toArray, List.set_cons_zero, List.set_cons_succ]
                  refine wpAnyH_take (i := 9) (v := ?_) rfl (by kernel_rfl) (by kernel_rfl) (by kernel_rfl) (fun _ _ _ h => h) (Or.inl ⟨by kernel_rfl, ?_⟩) (by assumption) ?_
                  rotate_left
                  · intro w hSw
                    (try dsimp only at hSw)
                    go_simp
                    all_goals (with_reducible rfl)
                  try simp only [Act.put, List.getElem_toArray, List.getElem_cons_zero, List.getElem_cons_succ, List.setIfInBounds_toArray, List.set_cons_zero, List.set_cons_succ]
                  refine wpAnyH_take (i := 10) (v := ?_) rfl (by kernel_rfl) (by kernel_rfl) (by kernel_rfl) (fun _ _ _ h => h) (Or.inl ⟨by kernel_rfl, ?_⟩) (by assumption) ?_
                  rotate_left
                  · intro w hSw
                    (try dsimp only at hSw)
                    go_simp
                    all_goals (with_reducible rfl)
                  try simp only [Act.put, List.getElem_toArray, List.getElem_cons_zero, List.getElem_cons_succ, List.setIfInBounds_toArray, List.set_cons_zero, List.set_cons_succ]
                  refine wpAnyH_take (i := 11) (v := ?_) rfl (by kernel_rfl) (by kernel_rfl) (by kernel_rfl) (fun _ _ _ h => h) (Or.inl ⟨by kernel_rfl, ?_⟩) (by assumption) ?_
                  rotate_left
                  · intro w hSw
                    (try dsimp only at hSw)
                    go_simp
                    all_goals (with_reducible rfl)
                  try simp only [Act.put, List.getElem_toArray, List.getElem_cons_zero, List.getElem_cons_succ, List.setIfInBounds_toArray, List.set_cons_zero, List.set_cons_succ]
                  refine wpAnyH_ready (rs := [7]) (by kernel_rfl) (by simp) ?_
                  refine AllReadyH.cons rfl (fun K hK => ?_) AllReadyH.nil
                  go_simp
                  go_at_call 10
                  refine (real_any X' Y' D' v0 (md_wf (sbmd HCj.out)).1 (md_wf (sbmd HCj.out)).2.1 (md_wf (sbmd HCj.out)).2.2).mono ?_
                  rintro e v1 ⟨s0, A0, n0, c0, t0, B0, m0, d0, s1, A1, n1, c1, t1, B1, m1, d1, rfl, hr1, hr2, hk⟩
                  have F0_1 := Lib.hid (hr1)
                  have F1_1 := Lib.hid (hr2)
                  have HB_1 := Lib.hid hk
                  go_wp2_with fail
                  have HX_1 := Lib.hid (bt HX_0.out HB_1.out)
                  refine hK.out _ _ (⟨(HGi.out _ HX_1.out).1, (HGi.out _ HX_1.out).2.1, (HGi.out _ HX_1.out).2.2, (HGj.out _ HX_1.out).1, (HGj.out _ HX_1.out).2.1, (HGj.out _ HX_1.out).2.2, (HGk.out _ HX_1.out).1, (HGk.out _ HX_1.out).2.1, (HGk.out _ HX_1.out).2.2, HX_1.out⟩) (fun hHeld2 => ?_)
                  clear hHeld
                  have hHeld := hHeld2
                  clear hHeld2 hK K hk HB_1 hr1 hr2 HX_0
                  try simp only [Act.put, List.getElem_toArray, List.getElem_cons_zero, List.getElem_cons_succ, List.setIfInBounds_toArray, List.set_cons_zero, List.set_cons_succ]
                  refine wpAnyH_ready (rs := [12]) (by kernel_rfl) (by simp) ?_
                  refine AllReadyH.cons rfl (fun K hK => ?_) AllReadyH.nil
                  go_simp
                  go_at_call 10
                  refine (real_any X'' Y'' D'' v1 (md_wf (sbmd HCk.out)).1 (md_wf (sbmd HCk.out)).2.1 (md_wf (sbmd HCk.out)).2.2).mono ?_
                  rintro e v2 ⟨s2, A2, n2, c2, t2, B2, m2, d2, s3, A3, n3, c3, t3, B3, m3, d3, rfl, hr1, hr2, hk⟩
                  have F2_2 := Lib.hid (hr1)
                  have F3_2 := Lib.hid (hr2)
                  have HB_2 := Lib.hid hk
                  go_wp2_with fail
                  have HX_2 := Lib.hid (bt HX_1.out HB_2.out)
                  have F0_2 := Lib.hid ((F0_1.out).new HB_2.out)
                  have F1_2 := Lib.hid ((F1_1.out).new HB_2.out)
                  refine hK.out _ _ (⟨(HGi.out _ HX_2.out).1, (HGi.out _ HX_2.out).2.1, (HGi.out _ HX_2.out).2.2, (HGj.out _ HX_2.out).1, (HGj.out _ HX_2.out).2.1, (HGj.out _ HX_2.out).2.2, (HGk.out _ HX_2.out).1, (HGk.out _ HX_2.out).2.1, (HGk.out _ HX_2.out).2.2, HX_2.out⟩) (fun hHeld2 => ?_)
                  clear hHeld
                  have hHeld := hHeld2
                  clear hHeld2 hK K hk HB_2 hr1 hr2 HX_1 F0_1 F1_1
                  try simp only [Act.put, List.getElem_toArray, List.getElem_cons_zero, List.getElem_cons_succ, List.setIfInBounds_toArray, List.set_cons_zero, List.set_cons_succ]
                  refine wpAnyH_ready (rs := [13]) (by kernel_rfl) (by simp) ?_
                  refine AllReadyH.cons rfl (fun K hK => ?_) AllReadyH.nil
                  go_simp
                  go_at_call 9
                  refine (ptcompare_any (mkP X' D') (mkQ X' D') (mkP Y' D') (mkQ Y' D') (mkP X'' D'') (mkQ X'' D'') (mkP Y'' D'') (mkQ Y'' D'') s0 A0 n0 c0 t0 B0 m0 d0 s1 A1 n1 c1 t1 B1 m1 d1 s2 A2 n2 c2 t2 B2 m2 d2 s3 A3 n3 c3 t3 B3 m3 d3 v2 F0_2.out F1_2.out F2_2.out F3_2.out ⟨(md_lims (sbmd HCj.out)).1, (md_lims (sbmd HCj.out)).2, (md_lims (sbmd HCk.out)).1, (md_lims (sbmd HCk.out)).2⟩).mono ?_
                  rw [pc_rc HCj.out.1.1 HCk.out.1.1, HR2.out]
                  rintro e v3 ⟨rfl, hk⟩
                  have HB_3 := Lib.hid hk
                  go_wp2_with fail
                  clear F0_2
                  clear F1_2
                  clear F2_2
                  clear F3_2
                  have HX_3 := Lib.hid (bt HX_2.out HB_3.out)
                  refine hK.out _ _ (⟨(HGi.out _ HX_3.out).1, (HGi.out _ HX_3.out).2.1, (HGi.out _ HX_3.out).2.2, (HGj.out _ HX_3.out).1, (HGj.out _ HX_3.out).2.1, (HGj.out _ HX_3.out).2.2, (HGk.out _ HX_3.out).1, (HGk.out _ HX_3.out).2.1, (HGk.out _ HX_3.out).2.2, HX_3.out⟩) (fun hHeld2 => ?_)
                  clear hHeld
                  have hHeld := hHeld2
                  clear hHeld2 hK K hk HB_3 HX_2
                  try simp only [Act.put, List.getElem_toArray, List.getElem_cons_zero, List.getElem_cons_succ, List.setIfInBounds_toArray, List.set_cons_zero, List.set_cons_succ]
                  refine wpAnyH_take (i := 14) (v := .bool false) rfl (by kernel_rfl) (by kernel_rfl) (by kernel_rfl) (fun _ _ _ h => h) (Or.inl ⟨by kernel_rfl, ?_⟩) (by assumption) ?_
                  · intro w hSw
                    (try dsimp only at hSw)
                    go_simp
                    all_goals (first | exact HP2.out | (have := HP2.out; simp_all) | (simp; have := HP2.out; omega))
                  try simp only [Act.put, List.getElem_toArray, List.getElem_cons_zero, List.getElem_cons_succ, List.setIfInBounds_toArray, List.set_cons_zero, List.set_cons_succ]
                  refine wpAnyH_take (i := 15) (v := ?_) rfl (by kernel_rfl) (by kernel_rfl) (by kernel_rfl) (fun _ _ _ h => h) (Or.inl ⟨by kernel_rfl, ?_⟩) (by assumption) ?_
                  rotate_left
                  · intro w hSw
                    (try dsimp only at hSw)
                    go_simp
                    all_goals (with_reducible rfl)
                  try simp only [Act.put, List.getElem_toArray, List.getElem_cons_zero, List.getElem_cons_succ, List.setIfInBounds_toArray, List.set_cons_zero, List.set_cons_succ]
                  refine wpAnyH_take (i := 16) (v := ?_) rfl (by kernel_rfl) (by kernel_rfl) (by kernel_rfl) (fun _ _ _ h => h) (Or.inl ⟨by kernel_rfl, ?_⟩) (by assumption) ?_
                  rotate_left
                  · intro w hSw
                    (try dsimp only at hSw)
                    go_simp
                    all_goals (with_reducible rfl)
                  try simp only [Act.put, List.getElem_toArray, List.getElem_cons_zero, List.getElem_cons_succ, List.setIfInBounds_toArray, List.set_cons_zero, List.set_cons_succ]
                  refine wpAnyH_take (i := 17) (v := undef) rfl (by kernel_rfl) (by kernel_rfl) (by kernel_rfl) (fun _ _ _ h => h) (Or.inr ⟨by kernel_rfl, rfl⟩) (by assumption) ?_
                  try simp only [Act.put, List.getElem_toArray, List.getElem_cons_zero, List.getElem_cons_succ, List.setIfInBounds_toArray, List.set_cons_zero, List.set_cons_succ]
                  refine wpAnyH_take (i := 18) (v := undef) rfl (by kernel_rfl) (by kernel_rfl) (by kernel_rfl) (fun _ _ _ h => h) (Or.inr ⟨by kernel_rfl, rfl⟩) (by assumption) ?_
                  try simp only [Act.put, List.getElem_toArray, List.getElem_cons_zero, List.getElem_cons_succ, List.setIfInBounds_toArray, List.set_cons_zero, List.set_cons_succ]
                  refine wpAnyH_take (i := 19) (v := undef) rfl (by kernel_rfl) (by kernel_rfl) (by kernel_rfl) (fun _ _ _ h => h) (Or.inr ⟨by kernel_rfl, rfl⟩) (by assumption) ?_
                  try simp only [Act.put, List.getElem_toArray, List.getElem_cons_zero, List.getElem_cons_succ, List.setIfInBounds_toArray, List.set_cons_zero, List.set_cons_succ]
                  refine wpAnyH_take (i := 20) (v := undef) rfl (by kernel_rfl) (by kernel_rfl) (by kernel_rfl) (fun _ _ _ h => h) (Or.inr ⟨by kernel_rfl, rfl⟩) (by assumption) ?_
                  try simp only [Act.put, List.getElem_toArray, List.getElem_cons_zero, List.getElem_cons_succ, List.setIfInBounds_toArray, List.set_cons_zero, List.set_cons_succ]
                  refine wpAnyH_take (i := 21) (v := undef) rfl (by kernel_rfl) (by kernel_rfl) (by kernel_rfl) (fun _ _ _ h => h) (Or.inr ⟨by kernel_rfl, rfl⟩) (by assumption) ?_
                  try simp only [Act.put, List.getElem_toArray, List.getElem_cons_zero, List.getElem_cons_succ, List.setIfInBounds_toArray, List.set_cons_zero, List.set_cons_succ]
                  refine wpAnyH_take (i := 22) (v := undef) rfl (by kernel_rfl) (by kernel_rfl) (by kernel_rfl) (fun _ _ _ h => h) (Or.inr ⟨by kernel_rfl, rfl⟩) (by assumption) ?_
                  try simp only [Act.put, List.getElem_toArray, List.getElem_cons_zero, List.getElem_cons_succ, List.setIfInBounds_toArray, List.set_cons_zero, List.set_cons_succ]
                  refine wpAnyH_take (i := 23) (v := undef) rfl (by kernel_rfl) (by kernel_rfl) (by kernel_rfl) (fun _ _ _ h => h) (Or.inr ⟨by kernel_rfl, rfl⟩) (by assumption) ?_
                  try simp only [Act.put, List.getElem_toArray, List.getElem_cons_zero, List.getElem_cons_succ, List.setIfInBounds_toArray, List.set_cons_zero, List.set_cons_succ]
                  refine wpAnyH_take (i := 24) (v := undef) rfl (by kernel_rfl) (by kernel_rfl) (by kernel_rfl) (fun _ _ _ h => h) (Or.inr ⟨by kernel_rfl, rfl⟩) (by assumption) ?_
                  try simp only [Act.put, List.getElem_toArray, List.getElem_cons_zero, List.getElem_cons_succ, List.setIfInBounds_toArray, List.set_cons_zero, List.set_cons_succ]
                  refine wpAnyH_take (i := 25) (v := undef) rfl (by kernel_rfl) (by kernel_rfl) (by kernel_rfl) (fun _ _ _ h => h) (Or.inr ⟨by kernel_rfl, rfl⟩) (by assumption) ?_
                  try simp only [Act.put, List.getElem_toArray, List.getElem_cons_zero, List.getElem_cons_succ, List.setIfInBounds_toArray, List.set_cons_zero, List.set_cons_succ]
                  refine wpAnyH_take (i := 26) (v := undef) rfl (by kernel_rfl) (by kernel_rfl) (by kernel_rfl) (fun _ _ _ h => h) (Or.inr ⟨by kernel_rfl, rfl⟩) (by assumption) ?_
                  try simp only [Act.put, List.getElem_toArray, List.getElem_cons_zero, List.getElem_cons_succ, List.setIfInBounds_toArray, List.set_cons_zero, List.set_cons_succ]
                  refine wpAnyH_take (i := 27) (v := undef) rfl (by kernel_rfl) (by kernel_rfl) (by kernel_rfl) (fun _ _ _ h => h) (Or.inr ⟨by kernel_rfl, rfl⟩) (by assumption) ?_
                  try simp only [Act.put, List.getElem_toArray, List.getElem_cons_zero, List.getElem_cons_succ, List.setIfInBounds_toArray, List.set_cons_zero, List.set_cons_succ]
                  refine wpAnyH_take (i := 28) (v := undef) rfl (by kernel_rfl) (by kernel_rfl) (by kernel_rfl) (fun _ _ _ h => h) (Or.inr ⟨by kernel_rfl, rfl⟩) (by assumption) ?_
                  try simp only [Act.put, List.getElem_toArray, List.getElem_cons_zero, List.getElem_cons_succ, List.setIfInBounds_toArray, List.set_cons_zero, List.set_cons_succ]
                  refine wpAnyH_take (i := 29) (v := ?_) rfl (by kernel_rfl) (by kernel_rfl) (by kernel_rfl) (fun _ _ _ h => h) (Or.inl ⟨by kernel_rfl, ?_⟩) (by assumption) ?_
                  rotate_left
                  · intro w hSw
                    (try dsimp only at hSw)
                    go_simp
                    all_goals (with_reducible rfl)
                  try simp only [Act.put, List.getElem_toArray, List.getElem_cons_zero, List.getElem_cons_succ, List.setIfInBounds_toArray, List.set_cons_zero, List.set_cons_succ]
                  refine wpAnyH_done (by kernel_rfl) ?_ _
                  clear hHeld
                  have HBN := Lib.hid HX_3.out
                  go_wp2_with fail
                  go_roundw
                  case rel => exact ⟨k + 1, by omega, by go_num, HBN.out⟩
                  case measure => simp [intOf]; omega
              · have HP1 := Lib.hid (show decide (r1 ≤ 0) = false from decide_eq_false hq1)
                clear hq1
                go_wp2_with fail
                obtain ⟨v0, hv0⟩ : ∃ z, World.drew wr = z := ⟨_, rfl⟩
                have HD0 := Lib.hid (show Below wr.heap.size wr v0 by rw [← hv0]; exact (Below.refl _ _).drew)
                have HX_0 := Lib.hid (bt HB.out HD0.out)
                refine wp_region_held_drew (S := (fun w' : World => w'.cell? ⟨G, i * 3, none⟩ = some (.int .i64 X) ∧ w'.cell? ⟨G, i * 3 + 1, none⟩ = some (.int .i64 Y) ∧ w'.cell? ⟨G, i * 3 + 2, none⟩ = some (.int .i64 D) ∧ w'.cell? ⟨G, j * 3, none⟩ = some (.int .i64 X') ∧ w'.cell? ⟨G, j * 3 + 1, none⟩ = some (.int .i64 Y') ∧ w'.cell? ⟨G, j * 3 + 2, none⟩ = some (.int .i64 D') ∧ w'.cell? ⟨G, k * 3, none⟩ = some (.int .i64 X'') ∧ w'.cell? ⟨G, k * 3 + 1, none⟩ = some (.int .i64 Y'') ∧ w'.cell? ⟨G, k * 3 + 2, none⟩ = some (.int .i64 D'') ∧ Below WL.heap.size WL w')) (by kernel_rfl) ?_ (fun hHeld => ?_)
                · rw [hv0]
                  exact ⟨(HGi.out _ HX_0.out).1, (HGi.out _ HX_0.out).2.1, (HGi.out _ HX_0.out).2.2, (HGj.out _ HX_0.out).1, (HGj.out _ HX_0.out).2.1, (HGj.out _ HX_0.out).2.2, (HGk.out _ HX_0.out).1, (HGk.out _ HX_0.out).2.1, (HGk.out _ HX_0.out).2.2, HX_0.out⟩
                rw [hv0] at hHeld ⊢
                clear hv0 HD0
                refine wpAnyH_take (i := 0) (v := ?_) rfl (by kernel_rfl) (by kernel_rfl) (by kernel_rfl) (fun _ _ _ h => h) (Or.inl ⟨by kernel_rfl, ?_⟩) (by assumption) ?_
                rotate_left
                · intro w hSw
                  (try dsimp only at hSw)
                  go_simp
                  all_goals (with_reducible rfl)
                try simp only [Act.put, List.getElem_toArray, List.getElem_cons_zero, List.setIfInBounds_toArray, List.set_cons_zero, List.set_cons_succ]
                refine wpAnyH_take (i := 1) (v := .bool false) rfl (by kernel_rfl) (by kernel_rfl) (by kernel_rfl) (fun _ _ _ h => h) (Or.inl ⟨by kernel_rfl, ?_⟩) (by assumption) ?_
                · intro w hSw
                  (try dsimp only at hSw)
                  go_simp
                  all_goals (first | exact HP1.out | (have := HP1.out; simp_all) | (simp; have := HP1.out; omega))
                try simp only [Act.put, List.getElem_toArray, List.getElem_cons_zero, List.getElem_cons_succ, List.setIfInBounds_toArray, List.set_cons_zero, List.set_cons_succ]
                refine wpAnyH_take (i := 2) (v := ?_) rfl (by kernel_rfl) (by kernel_rfl) (by kernel_rfl) (fun _ _ _ h => h) (Or.inl ⟨by kernel_rfl, ?_⟩) (by assumption) ?_
                rotate_left
                · intro w hSw
                  (try dsimp only at hSw)
                  go_simp
                  all_goals (with_reducible rfl)
                try simp only [Act.put, List.getElem_toArray, List.getElem_cons_zero, List.getElem_cons_succ, List.setIfInBounds_toArray, List.set_cons_zero, List.set_cons_succ]
                refine wpAnyH_take (i := 3) (v := undef) rfl (by kernel_rfl) (by kernel_rfl) (by kernel_rfl) (fun _ _ _ h => h) (Or.inr ⟨by kernel_rfl, rfl⟩) (by assumption) ?_
                try simp only [Act.put, List.getElem_toArray, List.getElem_cons_zero, List.getElem_cons_succ, List.setIfInBounds_toArray, List.set_cons_zero, List.set_cons_succ]
                refine wpAnyH_take (i := 4) (v := undef) rfl (by kernel_rfl) (by kernel_rfl) (by kernel_rfl) (fun _ _ _ h => h) (Or.inr ⟨by kernel_rfl, rfl⟩) (by assumption) ?_
                try simp only [Act.put, List.getElem_toArray, List.getElem_cons_zero, List.getElem_cons_succ, List.setIfInBounds_toArray, List.set_cons_zero, List.set_cons_succ]
                refine wpAnyH_take (i := 5) (v := undef) rfl (by kernel_rfl) (by kernel_rfl) (by kernel_rfl) (fun _ _ _ h => h) (Or.inr ⟨by kernel_rfl, rfl⟩) (by assumption) ?_
                try simp only [Act.put, List.getElem_toArray, List.getElem_cons_zero, List.getElem_cons_succ, List.setIfInBounds_toArray, List.set_cons_zero, List.set_cons_succ]
                refine wpAnyH_take (i := 6) (v := undef) rfl (by kernel_rfl) (by kernel_rfl) (by kernel_rfl) (fun _ _ _ h => h) (Or.inr ⟨by kernel_rfl, rfl⟩) (by assumption) ?_
                try simp only [Act.put, List.getElem_toArray, List.getElem_cons_zero, List.getElem_cons_succ, List.setIfInBounds_toArray, List.set_cons_zero, List.set_cons_succ]
                refine wpAnyH_take (i := 7) (v := undef) rfl (by kernel_rfl) (by kernel_rfl) (by kernel_rfl) (fun _ _ _ h => h) (Or.inr ⟨by kernel_rfl, rfl⟩) (by assumption) ?_
                try simp only [Act.put, List.getElem_toArray, List.getElem_cons_zero, List.getElem_cons_succ, List.setIfInBounds_toArray, List.set_cons_zero, List.set_cons_succ]
                refine wpAnyH_take (i := 8) (v := undef) rfl (by kernel_rfl) (by kernel_rfl) (by kernel_rfl) (fun _ _ _ h => h) (Or.inr ⟨by kernel_rfl, rfl⟩) (by assumption) ?_
                try simp only [Act.put, List.getElem_toArray, List.getElem_cons_zero, List.getElem_cons_succ, List.setIfInBounds_toArray, List.set_cons_zero, List.set_cons_succ]
                refine wpAnyH_take (i := 9) (v := undef) rfl (by kernel_rfl) (by kernel_rfl) (by kernel_rfl) (fun _ _ _ h => h) (Or.inr ⟨by kernel_rfl, rfl⟩) (by assumption) ?_
                try simp only [Act.put, List.getElem_toArray, List.getElem_cons_zero, List.getElem_cons_succ, List.setIfInBounds_toArray, List.set_cons_zero, List.set_cons_succ]
                refine wpAnyH_take (i := 10) (v := undef) rfl (by kernel_rfl) (by kernel_rfl) (by kernel_rfl) (fun _ _ _ h => h) (Or.inr ⟨by kernel_rfl, rfl⟩) (by assumption) ?_
                try simp only [Act.put, List.getElem_toArray, List.getElem_cons_zero, List.getElem_cons_succ, List.setIfInBounds_toArray, List.set_cons_zero, List.set_cons_succ]
                refine wpAnyH_take (i := 11) (v := undef) rfl (by kernel_rfl) (by kernel_rfl) (by kernel_rfl) (fun _ _ _ h => h) (Or.inr ⟨by kernel_rfl, rfl⟩) (by assumption) ?_
                try simp only [Act.put, List.getElem_toArray, List.getElem_cons_zero, List.getElem_cons_succ, List.setIfInBounds_toArray, List.set_cons_zero, List.set_cons_succ]
                refine wpAnyH_take (i := 12) (v := undef) rfl (by kernel_rfl) (by kernel_rfl) (by kernel_rfl) (fun _ _ _ h => h) (Or.inr ⟨by kernel_rfl, rfl⟩) (by assumption) ?_
                try simp only [Act.put, List.getElem_toArray, List.getElem_cons_zero, List.getElem_cons_succ, List.setIfInBounds_toArray, List.set_cons_zero, List.set_cons_succ]
                refine wpAnyH_take (i := 13) (v := undef) rfl (by kernel_rfl) (by kernel_rfl) (by kernel_rfl) (fun _ _ _ h => h) (Or.inr ⟨by kernel_rfl, rfl⟩) (by assumption) ?_
                try simp only [Act.put, List.getElem_toArray, List.getElem_cons_zero, List.getElem_cons_succ, List.setIfInBounds_toArray, List.set_cons_zero, List.set_cons_succ]
                refine wpAnyH_take (i := 14) (v := undef) rfl (by kernel_rfl) (by kernel_rfl) (by kernel_rfl) (fun _ _ _ h => h) (Or.inr ⟨by kernel_rfl, rfl⟩) (by assumption) ?_
                try simp only [Act.put, List.getElem_toArray, List.getElem_cons_zero, List.getElem_cons_succ, List.setIfInBounds_toArray, List.set_cons_zero, List.set_cons_succ]
                refine wpAnyH_take (i := 15) (v := ?_) rfl (by kernel_rfl) (by kernel_rfl) (by kernel_rfl) (fun _ _ _ h => h) (Or.inl ⟨by kernel_rfl, ?_⟩) (by assumption) ?_
                rotate_left
                · intro w hSw
                  (try dsimp only at hSw)
                  go_simp
                  all_goals (with_reducible rfl)
                try simp only [Act.put, List.getElem_toArray, List.getElem_cons_zero, List.getElem_cons_succ, List.setIfInBounds_toArray, List.set_cons_zero, List.set_cons_succ]
                refine wpAnyH_take (i := 16) (v := ?_) rfl (by kernel_rfl) (by kernel_rfl) (by kernel_rfl) (fun _ _ _ h => h) (Or.inl ⟨by kernel_rfl, ?_⟩) (by assumption) ?_
                rotate_left
                · intro w hSw
                  (try dsimp only at hSw)
                  go_simp
                  all_goals (with_reducible rfl)
                try simp only [Act.put, List.getElem_toArray, List.getElem_cons_zero, List.getElem_cons_succ, List.setIfInBounds_toArray, List.set_cons_zero, List.set_cons_succ]
                refine wpAnyH_take (i := 17) (v := undef) rfl (by kernel_rfl) (by kernel_rfl) (by kernel_rfl) (fun _ _ _ h => h) (Or.inr ⟨by kernel_rfl, rfl⟩) (by assumption) ?_
                try simp only [Act.put, List.getElem_toArray, List.getElem_cons_zero, List.getElem_cons_succ, List.setIfInBounds_toArray, List.set_cons_zero, List.set_cons_succ]
                refine wpAnyH_take (i := 18) (v := undef) rfl (by kernel_rfl) (by kernel_rfl) (by kernel_rfl) (fun _ _ _ h => h) (Or.inr ⟨by kernel_rfl, rfl⟩) (by assumption) ?_
                try simp only [Act.put, List.getElem_toArray, List.getElem_cons_zero, List.getElem_cons_succ, List.setIfInBounds_toArray, List.set_cons_zero, List.set_cons_succ]
                refine wpAnyH_take (i := 19) (v := undef) rfl (by kernel_rfl) (by kernel_rfl) (by kernel_rfl) (fun _ _ _ h => h) (Or.inr ⟨by kernel_rfl, rfl⟩) (by assumption) ?_
                try simp only [Act.put, List.getElem_toArray, List.getElem_cons_zero, List.getElem_cons_succ, List.setIfInBounds_toArray, List.set_cons_zero, List.set_cons_succ]
                refine wpAnyH_take (i := 20) (v := undef) rfl (by kernel_rfl) (by kernel_rfl) (by kernel_rfl) (fun _ _ _ h => h) (Or.inr ⟨by kernel_rfl, rfl⟩) (by assumption) ?_
                try simp only [Act.put, List.getElem_toArray, List.getElem_cons_zero, List.getElem_cons_succ, List.setIfInBounds_toArray, List.set_cons_zero, List.set_cons_succ]
                refine wpAnyH_take (i := 21) (v := undef) rfl (by kernel_rfl) (by kernel_rfl) (by kernel_rfl) (fun _ _ _ h => h) (Or.inr ⟨by kernel_rfl, rfl⟩) (by assumption) ?_
                try simp only [Act.put, List.getElem_toArray, List.getElem_cons_zero, List.getElem_cons_succ, List.setIfInBounds_toArray, List.set_cons_zero, List.set_cons_succ]
                refine wpAnyH_take (i := 22) (v := undef) rfl (by kernel_rfl) (by kernel_rfl) (by kernel_rfl) (fun _ _ _ h => h) (Or.inr ⟨by kernel_rfl, rfl⟩) (by assumption) ?_
                try simp only [Act.put, List.getElem_toArray, List.getElem_cons_zero, List.getElem_cons_succ, List.setIfInBounds_toArray, List.set_cons_zero, List.set_cons_succ]
                refine wpAnyH_take (i := 23) (v := undef) rfl (by kernel_rfl) (by kernel_rfl) (by kernel_rfl) (fun _ _ _ h => h) (Or.inr ⟨by kernel_rfl, rfl⟩) (by assumption) ?_
                try simp only [Act.put, List.getElem_toArray, List.getElem_cons_zero, List.getElem_cons_succ, List.setIfInBounds_toArray, List.set_cons_zero, List.set_cons_succ]
                refine wpAnyH_take (i := 24) (v := undef) rfl (by kernel_rfl) (by kernel_rfl) (by kernel_rfl) (fun _ _ _ h => h) (Or.inr ⟨by kernel_rfl, rfl⟩) (by assumption) ?_
                try simp only [Act.put, List.getElem_toArray, List.getElem_cons_zero, List.getElem_cons_succ, List.setIfInBounds_toArray, List.set_cons_zero, List.set_cons_succ]
                refine wpAnyH_take (i := 25) (v := undef) rfl (by kernel_rfl) (by kernel_rfl) (by kernel_rfl) (fun _ _ _ h => h) (Or.inr ⟨by kernel_rfl, rfl⟩) (by assumption) ?_
                try simp only [Act.put, List.getElem_toArray, List.getElem_cons_zero, List.getElem_cons_succ, List.setIfInBounds_toArray, List.set_cons_zero, List.set_cons_succ]
                refine wpAnyH_take (i := 26) (v := undef) rfl (by kernel_rfl) (by kernel_rfl) (by kernel_rfl) (fun _ _ _ h => h) (Or.inr ⟨by kernel_rfl, rfl⟩) (by assumption) ?_
                try simp only [Act.put, List.getElem_toArray, List.getElem_cons_zero, List.getElem_cons_succ, List.setIfInBounds_toArray, List.set_cons_zero, List.set_cons_succ]
                refine wpAnyH_take (i := 27) (v := undef) rfl (by kernel_rfl) (by kernel_rfl) (by kernel_rfl) (fun _ _ _ h => h) (Or.inr ⟨by kernel_rfl, rfl⟩) (by assumption) ?_
                try simp only [Act.put, List.getElem_toArray, List.getElem_cons_zero, List.getElem_cons_succ, List.setIfInBounds_toArray, List.set_cons_zero, List.set_cons_succ]
                refine wpAnyH_take (i := 28) (v := undef) rfl (by kernel_rfl) (by kernel_rfl) (by kernel_rfl) (fun _ _ _ h => h) (Or.inr ⟨by kernel_rfl, rfl⟩) (by assumption) ?_
                try simp only [Act.put, List.getElem_toArray, List.getElem_cons_zero, List.getElem_cons_succ, List.setIfInBounds_toArray, List.set_cons_zero, List.set_cons_succ]
                refine wpAnyH_take (i := 29) (v := ?_) rfl (by kernel_rfl) (by kernel_rfl) (by kernel_rfl) (fun _ _ _ h => h) (Or.inl ⟨by kernel_rfl, ?_⟩) (by assumption) ?_
                rotate_left
                · intro w hSw
                  (try dsimp only at hSw)
                  go_simp
                  all_goals (with_reducible rfl)
                try simp only [Act.put, List.getElem_toArray, List.getElem_cons_zero, List.getElem_cons_succ, List.setIfInBounds_toArray, List.set_cons_zero, List.set_cons_succ]
                refine wpAnyH_done (by kernel_rfl) ?_ _
                clear hHeld
                have HBN := Lib.hid HX_0.out
                go_wp2_with fail
                go_roundw
                case rel => exact ⟨k + 1, by omega, by go_num, HBN.out⟩
                case measure => simp [intOf]; omega
            · obtain rfl : k = 4 := by omega
              go_wp2_with fail
              go_roundw
              case rel => exact ⟨j + 1, by omega, by go_num, HB.out⟩
              case measure => simp [intOf]; omega
        · obtain rfl : j = 4 := by omega
          go_wp2_with fail
          go_roundw
          case rel => exact ⟨i + 1, by omega, by go_num, HB.out⟩
          case measure => simp [intOf]; omega
    · obtain rfl : i = 4 := by omega
      go_wp2_with fail
      refine (plives_any wr).mono ?_
      rintro e w9 ⟨rfl, hb9⟩
      have HB9 := Lib.hid (bt HBL.out (bt HB.out hb9))
      clear hb9
      go_wp2
      go_ret
      exact ⟨rfl, HB9.out⟩
end Go.Proofs.Ytfmccalkfagafaa
