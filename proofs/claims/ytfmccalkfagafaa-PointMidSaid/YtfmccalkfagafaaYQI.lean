/- The walk of PointMid: the law returns true for every input. -/
import Derived.Test.YtfmccalkfagafaaYQL
import Derived.Test.YtfmccalkfagafaaYPD
import Derived.Test.YtfmccalkfagafaaYFI
namespace Go.Proofs.Ytfmccalkfagafaa
open Go.RowKit
attribute [local go_sem ↓] Go.wp_at_zero Go.wp_at_succ
theorem fld0 (v0 v1 v2 v3 v4 v5 v6 v7 : Value) (wx : World) : (Instr.field 33 (.agg #[v0, v1, v2, v3, v4, v5, v6, v7]) 0).run Try.prog wx = .ok (.agg #[v0, v1, v2, v3]) wx := by kernel_rfl
theorem fld1 (v0 v1 v2 v3 v4 v5 v6 v7 : Value) (wx : World) : (Instr.field 33 (.agg #[v0, v1, v2, v3, v4, v5, v6, v7]) 1).run Try.prog wx = .ok (.agg #[v4, v5, v6, v7]) wx := by kernel_rfl
attribute [local go_sem] fld0 fld1
theorem sb_md {X Y D : Int} (h : Sb X Y D) : Md X Y D := by unfold Sb at h; unfold Md; omega
/-- What Mid returns for two points. -/
theorem me_pt {X Y D X' Y' D' : Int} (h : Sb X Y D) (h' : Sb X' Y' D') :
    meX (mkP X D) (mkQ X D) (mkP X' D') (mkQ X' D') (mkP Y D) (mkQ Y D) (mkP Y' D') (mkQ Y' D') = mkP (X * D' + X' * D) (2 * (D * D')) ∧ meXd (mkP X D) (mkQ X D) (mkP X' D') (mkQ X' D') (mkP Y D) (mkQ Y D) (mkP Y' D') (mkQ Y' D') = mkQ (X * D' + X' * D) (2 * (D * D')) ∧ meY (mkP X D) (mkQ X D) (mkP X' D') (mkQ X' D') (mkP Y D) (mkQ Y D) (mkP Y' D') (mkQ Y' D') = mkP (Y * D' + Y' * D) (2 * (D * D')) ∧ meYd (mkP X D) (mkQ X D) (mkP X' D') (mkQ X' D') (mkP Y D) (mkQ Y D) (mkP Y' D') (mkQ Y' D') = mkQ (Y * D' + Y' * D) (2 * (D * D')) ∧ meC (mkP X D) (mkQ X D) (mkP X' D') (mkQ X' D') (mkP Y D) (mkQ Y D) (mkP Y' D') (mkQ Y' D') = 0 := by
  obtain ⟨⟨d0, d1⟩, ⟨x0, x1⟩, y0, y1⟩ := h
  obtain ⟨⟨d0', d1'⟩, ⟨x0', x1'⟩, y0', y1'⟩ := h'
  obtain ⟨a1, a2, a3⟩ := md_pt (X := X) (D := D) (X' := X') (D' := D') d0 d0' (by omega) (by omega) (by omega) (by omega)
  obtain ⟨b1, b2, b3⟩ := md_pt (X := Y) (D := D) (X' := Y') (D' := D') d0 d0' (by omega) (by omega) (by omega) (by omega)
  have hk : meK (mkP X D) (mkQ X D) (mkP X' D') (mkQ X' D') (mkP Y D) (mkQ Y D) (mkP Y' D') (mkQ Y' D') := ⟨a1, b1⟩
  exact ⟨by unfold meX; rw [if_pos hk, a2], by unfold meXd; rw [if_pos hk, a3], by unfold meY; rw [if_pos hk, b2], by unfold meYd; rw [if_pos hk, b3], by unfold meC; rw [if_pos a1, b1]⟩
/-- The middle of two small points: its numbers. -/
def Mp (S T N : Int) : Prop := (0 < N ∧ N ≤ 288) ∧ (-9600 ≤ S ∧ S ≤ 9600) ∧ (-9600 ≤ T ∧ T ≤ 9600)
theorem mp_of {X Y D X' Y' D' : Int} (h : Sb X Y D) (h' : Sb X' Y' D') : Mp (X * D' + X' * D) (Y * D' + Y' * D) (2 * (D * D')) := by
  obtain ⟨⟨d0, d1⟩, ⟨x0, x1⟩, y0, y1⟩ := h
  obtain ⟨⟨d0', d1'⟩, ⟨x0', x1'⟩, y0', y1'⟩ := h'
  have m1 := mul_in (show X.natAbs ≤ 400 by omega) (show D'.natAbs ≤ 12 by omega)
  have m2 := mul_in (show X'.natAbs ≤ 400 by omega) (show D.natAbs ≤ 12 by omega)
  have m3 := mul_in (show Y.natAbs ≤ 400 by omega) (show D'.natAbs ≤ 12 by omega)
  have m4 := mul_in (show Y'.natAbs ≤ 400 by omega) (show D.natAbs ≤ 12 by omega)
  have m5 := mul_in (show D.natAbs ≤ 12 by omega) (show D'.natAbs ≤ 12 by omega)
  have m6 : 0 < D * D' := Int.mul_pos d0 d0'
  exact ⟨⟨by omega, by omega⟩, ⟨by omega, by omega⟩, by omega, by omega⟩
theorem mp_md {S T N : Int} (h : Mp S T N) : Md S T N := by unfold Mp at h; unfold Md; omega
theorem nr_bound {S N : Int} (h0 : 0 < N) (h1 : N ≤ 288) (h2 : -9600 ≤ S ∧ S ≤ 9600) : -60000 ≤ nrV S N ∧ nrV S N ≤ 60000 := by
  unfold nrV
  have := Int.natAbs_ediv_le_natAbs (N - 2 * S) (2 * N)
  omega
/-- Round of the middle. -/
theorem rr_mp {S T N : Int} (h : Mp S T N) : rrX S T N = nrV S N ∧ rrY S T N = nrV T N ∧ rrC S T N = 0 := by
  have h1 := nr_bound h.1.1 h.1.2 h.2.1
  have h2 := nr_bound h.1.1 h.1.2 h.2.2
  have hv : vdC (nrV S N) (nrV T N) = 0 := if_pos ⟨by omega, by omega⟩
  have hk : rrK S T N := hv
  exact ⟨if_pos hk, if_pos hk, hv⟩
theorem nr_half {S N : Int} (h0 : 0 < N) (h1 : N ≤ 288) (h2 : -9600 ≤ S ∧ S ≤ 9600) : adC (nrV S N) 1 (-mkP S N) (mkQ S N) = 0 ∧ cmpI (adP (nrV S N) 1 (-mkP S N) (mkQ S N) * 2) (1 * adQ (nrV S N) 1 (-mkP S N) (mkQ S N)) = -1 ∧ 0 ≤ cmpI (adP (nrV S N) 1 (-mkP S N) (mkQ S N) * 2) (-1 * adQ (nrV S N) 1 (-mkP S N) (mkQ S N)) := by
  have hb := mk_bound (x := S) h0
  have hn := nr_bound h0 h1 h2
  exact sub_half (mk_low S N h0).1 (by unfold nrV; rw [near_mk h0]) (by omega) (by omega) (by omega)
set_option maxRecDepth 100000 in
set_option maxHeartbeats 6400000 in
theorem pointMid_walk (a b : Int) (w : World) (ha : (Lit.int .i64 a).wf = true) (hb : (Lit.int .i64 b).wf = true) :
    Calls Try.prog 5 #[.int .i64 a, .int .i64 b] w fun e w' => e = .returned (.bool true) ∧ Below w.heap.size w w' := by
  have HI := Lib.hid (And.intro ha hb)
  clear ha hb
  go_enter Try.func5, Try.ntmps5
  go_wp2_with fail
  refine (some_any a w HI.out.1).mono ?_
  rintro e w1 ⟨X, Y, D, rfl, hs, hb1⟩
  have HSA := Lib.hid hs.sb
  obtain ⟨v1, hv1⟩ : ∃ z, w1.alloc (.cells #[.int .i64 X, .int .i64 Y, .int .i64 D] 23) = z := ⟨_, rfl⟩
  have HN1 := Lib.hid (show Below w.heap.size w v1 by rw [← hv1]; exact bt hb1 ((Below.refl _ _).alloc (Nat.le_refl _) _))
  have HA1 := Lib.hid (show P3 23 v1 w1.heap.size (.int .i64 X) (.int .i64 Y) (.int .i64 D) by rw [← hv1]; exact P3.lit _ _ _ _ _)
  obtain ⟨gA, hgA⟩ : ∃ g, w1.heap.size = g := ⟨_, rfl⟩
  rw [hgA] at HA1
  clear hs hb1
  go_wp2_with fail
  clear hv1 hgA
  refine (some_any b v1 HI.out.2).mono ?_
  rintro e w2 ⟨X', Y', D', rfl, hs, hb2⟩
  have HSB := Lib.hid hs.sb
  obtain ⟨W2, hv2⟩ : ∃ z, w2.alloc (.cells #[.int .i64 X', .int .i64 Y', .int .i64 D'] 23) = z := ⟨_, rfl⟩
  have HN2 := Lib.hid (show Below v1.heap.size v1 W2 by rw [← hv2]; exact bt hb2 ((Below.refl _ _).alloc (Nat.le_refl _) _))
  have HB := Lib.hid (show P3 23 W2 w2.heap.size (.int .i64 X') (.int .i64 Y') (.int .i64 D') by rw [← hv2]; exact P3.lit _ _ _ _ _)
  have HA := Lib.hid (HA1.out.new HN2.out)
  have HW2 := Lib.hid (bt HN1.out HN2.out)
  obtain ⟨gB, hgB⟩ : ∃ g, w2.heap.size = g := ⟨_, rfl⟩
  rw [hgB] at HB
  clear hs hb2 HA1 HN1 HN2
  obtain ⟨S, hS⟩ : ∃ z, X * D' + X' * D = z := ⟨_, rfl⟩
  obtain ⟨T, hT⟩ : ∃ z, Y * D' + Y' * D = z := ⟨_, rfl⟩
  obtain ⟨N, hN⟩ : ∃ z, 2 * (D * D') = z := ⟨_, rfl⟩
  have hS' : X' * D + X * D' = S := by rw [← hS, Int.add_comm]
  have hT' : Y' * D + Y * D' = T := by rw [← hT, Int.add_comm]
  have hN' : 2 * (D' * D) = N := by rw [← hN, Int.mul_comm D' D]
  have HE := Lib.hid (And.intro hS (And.intro hT hN))
  have HME := Lib.hid (me_pt HSA.out HSB.out)
  have HME' := Lib.hid (me_pt HSB.out HSA.out)
  have HMP := Lib.hid (mp_of HSA.out HSB.out)
  have HRL := Lib.hid (rc_left (X := X) (Y := Y) (D := D) (X' := X') (Y' := Y') (D' := D') HSA.out.1.1)
  have HRR := Lib.hid (rc_right (X := X) (Y := Y) (D := D) (X' := X') (Y' := Y') (D' := D') HSB.out.1.1)
  rw [hS, hT, hN] at HME HMP HRL HRR
  rw [hS', hT', hN'] at HME'
  clear hS hT hN hS' hT' hN'
  obtain ⟨C, hC⟩ : ∃ z, rcV X Y D X' Y' D' = z := ⟨_, rfl⟩
  have HC := Lib.hid hC
  rw [hC] at HRL HRR
  clear hC
  go_upto_region 3 with fail
  clear hv2 hgB
  obtain ⟨mx, hmx⟩ : ∃ z, mkP S N = z := ⟨_, rfl⟩
  obtain ⟨mq, hmq⟩ : ∃ z, mkQ S N = z := ⟨_, rfl⟩
  obtain ⟨my, hmy⟩ : ∃ z, mkP T N = z := ⟨_, rfl⟩
  obtain ⟨mv, hmv⟩ : ∃ z, mkQ T N = z := ⟨_, rfl⟩
  have HM := Lib.hid (And.intro hmx (And.intro hmq (And.intro hmy hmv)))
  rw [hmx, hmq, hmy, hmv] at HME HME'
  clear hmx hmq hmy hmv
  have HXX := Lib.hid (Below.refl W2.heap.size W2)
  go_cut [7, 8] (fun tp tc wx => ∃ (q : Nat) (s4 : Bool) (A4 : Option Addr) (n4 c4 : Nat) (t4 : Bool) (B4 : Option Addr) (m4 d4 : Nat) (s5 : Bool) (A5 : Option Addr) (n5 c5 : Nat) (t5 : Bool) (B5 : Option Addr) (m5 d5 : Nat), tp = .pointer (some ⟨q, 0, none⟩) ∧ tc = .int .i64 0 ∧ P8 33 wx q (.bool s4) (.slice A4 n4 c4) (.bool t4) (.slice B4 m4 d4) (.bool s5) (.slice A5 n5 c5) (.bool t5) (.slice B5 m5 d5) ∧ PF wx s4 A4 n4 c4 t4 B4 m4 d4 mx mq ∧ PF wx s5 A5 n5 c5 t5 B5 m5 d5 my mv ∧ Below W2.heap.size W2 wx)
  case first =>
    have HS : Hid (∀ w', Below W2.heap.size W2 w' → (fun w' : World => w'.cell? ⟨gA, 0, none⟩ = some (.int .i64 X) ∧ w'.cell? ⟨gA, 1, none⟩ = some (.int .i64 Y) ∧ w'.cell? ⟨gA, 2, none⟩ = some (.int .i64 D) ∧ w'.cell? ⟨gB, 0, none⟩ = some (.int .i64 X') ∧ w'.cell? ⟨gB, 1, none⟩ = some (.int .i64 Y') ∧ w'.cell? ⟨gB, 2, none⟩ = some (.int .i64 D') ∧ Below W2.heap.size W2 w') w') := Lib.hid (fun w' hb => ⟨(HA.out.new hb).cells.1, (HA.out.new hb).cells.2.1, (HA.out.new hb).cells.2.2, (HB.out.new hb).cells.1, (HB.out.new hb).cells.2.1, (HB.out.new hb).cells.2.2, hb⟩)
    have HX_0 := HXX
    obtain ⟨v0, hv0⟩ : ∃ z, World.drew W2 = z := ⟨_, rfl⟩
    have HD0 := Lib.hid (show Below W2.heap.size W2 v0 by rw [← hv0]; exact (Below.refl _ _).drew)
    refine wp_region_held_drew (S := (fun w' : World => w'.cell? ⟨gA, 0, none⟩ = some (.int .i64 X) ∧ w'.cell? ⟨gA, 1, none⟩ = some (.int .i64 Y) ∧ w'.cell? ⟨gA, 2, none⟩ = some (.int .i64 D) ∧ w'.cell? ⟨gB, 0, none⟩ = some (.int .i64 X') ∧ w'.cell? ⟨gB, 1, none⟩ = some (.int .i64 Y') ∧ w'.cell? ⟨gB, 2, none⟩ = some (.int .i64 D') ∧ Below W2.heap.size W2 w')) (by as_aux_lemma => kernel_rfl) ?_ (fun hHeld => ?_)
    · rw [hv0]
      exact HS.out _ HD0.out
    rw [hv0] at hHeld ⊢
    clear hv0 HX_0
    refine wpAnyH_take (i := 0) (v := ?_) rfl (by as_aux_lemma => kernel_rfl) (by as_aux_lemma => kernel_rfl) (by as_aux_lemma => kernel_rfl) (fun _ _ _ h => h) (Or.inl ⟨(by as_aux_lemma => kernel_rfl), ?_⟩) (by assumption) ?_
    rotate_left
    · intro w hSw
      (try dsimp only at hSw)
      go_simp
      all_goals (with_reducible rfl)
    try simp only [Act.put, List.getElem_toArray, List.getElem_cons_zero, List.setIfInBounds_toArray, List.set_cons_zero, List.set_cons_succ]
    refine wpAnyH_take (i := 2) (v := ?_) rfl (by as_aux_lemma => kernel_rfl) (by as_aux_lemma => kernel_rfl) (by as_aux_lemma => kernel_rfl) (fun _ _ _ h => h) (Or.inl ⟨(by as_aux_lemma => kernel_rfl), ?_⟩) (by assumption) ?_
    rotate_left
    · intro w hSw
      (try dsimp only at hSw)
      go_simp
      all_goals (with_reducible rfl)
    try simp only [Act.put, List.getElem_toArray, List.getElem_cons_zero, List.getElem_cons_succ, List.setIfInBounds_toArray, List.set_cons_zero, List.set_cons_succ]
    refine wpAnyH_name (fun F hF a0 ha0 L0 hL0 => ?_)
    have J1_3_4_8 : ∀ (s0 : Bool) (A0 : Option Addr) (n0 : Nat) (c0 : Nat) (t0 : Bool) (B0 : Option Addr) (m0 : Nat) (d0 : Nat) (s1 : Bool) (A1 : Option Addr) (n1 : Nat) (c1 : Nat) (t1 : Bool) (B1 : Option Addr) (m1 : Nat) (d1 : Nat) (s2 : Bool) (A2 : Option Addr) (n2 : Nat) (c2 : Nat) (t2 : Bool) (B2 : Option Addr) (m2 : Nat) (d2 : Nat) (s3 : Bool) (A3 : Option Addr) (n3 : Nat) (c3 : Nat) (t3 : Bool) (B3 : Option Addr) (m3 : Nat) (d3 : Nat) (s4 : Bool) (A4 : Option Addr) (n4 : Nat) (c4 : Nat) (t4 : Bool) (B4 : Option Addr) (m4 : Nat) (d4 : Nat) (s5 : Bool) (A5 : Option Addr) (n5 : Nat) (c5 : Nat) (t5 : Bool) (B5 : Option Addr) (m5 : Nat) (d5 : Nat) (gz : Nat) (v : World), Hid (Below W2.heap.size W2 v) → Hid (PF v s0 A0 n0 c0 t0 B0 m0 d0 (mkP X D) (mkQ X D)) → Hid (PF v s1 A1 n1 c1 t1 B1 m1 d1 (mkP Y D) (mkQ Y D)) → Hid (PF v s2 A2 n2 c2 t2 B2 m2 d2 (mkP X' D') (mkQ X' D')) → Hid (PF v s3 A3 n3 c3 t3 B3 m3 d3 (mkP Y' D') (mkQ Y' D')) → Hid (PF v s4 A4 n4 c4 t4 B4 m4 d4 mx mq) → Hid (PF v s5 A5 n5 c5 t5 B5 m5 d5 my mv) → Hid (P8 33 v gz (.bool false) (.slice none 0 0) (.bool false) (.slice none 0 0) (.bool false) (.slice none 0 0) (.bool false) (.slice none 0 0)) → Hid (W2.heap.size ≤ gz) → F 2 (Array.setIfInBounds (Array.setIfInBounds (Array.setIfInBounds (Array.setIfInBounds (Array.setIfInBounds (Array.setIfInBounds (Array.setIfInBounds L0 1 true) 3 true) 4 true) 8 true) 5 true) 6 true) 7 true) (Act.put (Act.put (Act.put (Act.put (Act.put (Act.put (Act.put a0 (some 28) (.agg #[.bool s0, .slice A0 n0 c0, .bool t0, .slice B0 m0 d0, .bool s1, .slice A1 n1 c1, .bool t1, .slice B1 m1 d1])) (some 30) (.agg #[.bool s2, .slice A2 n2 c2, .bool t2, .slice B2 m2 d2, .bool s3, .slice A3 n3 c3, .bool t3, .slice B3 m3 d3])) (some 31) (.tuple #[.agg #[.bool s4, .slice A4 n4 c4, .bool t4, .slice B4 m4 d4, .bool s5, .slice A5 n5 c5, .bool t5, .slice B5 m5 d5], .int .i64 0])) (some 7) (.pointer (some ⟨gz, 0, none⟩))) (some 26) (.tuple #[.agg #[.bool s4, .slice A4 n4 c4, .bool t4, .slice B4 m4 d4, .bool s5, .slice A5 n5 c5, .bool t5, .slice B5 m5 d5], .int .i64 0])) (some 32) (.agg #[.bool s4, .slice A4 n4 c4, .bool t4, .slice B4 m4 d4, .bool s5, .slice A5 n5 c5, .bool t5, .slice B5 m5 d5])) (some 33) (.int .i64 0)) v := by
      intro s0 A0 n0 c0 t0 B0 m0 d0 s1 A1 n1 c1 t1 B1 m1 d1 s2 A2 n2 c2 t2 B2 m2 d2 s3 A3 n3 c3 t3 B3 m3 d3 s4 A4 n4 c4 t4 B4 m4 d4 s5 A5 n5 c5 t5 B5 m5 d5 gz v HX_j F0_j F1_j F2_j F3_j F4_j F5_j HP_z_j HG_z_j
      subst hF ha0 hL0
      simp only [Act.put, List.setIfInBounds_toArray, List.set_cons_zero, List.set_cons_succ] at  ⊢
      have hHeld := HS.out _ HX_j.out
      refine wpAnyH_ready (rs := [9]) (by as_aux_lemma => kernel_rfl) (by simp) ?_
      refine AllReadyH.cons rfl (fun K hK => ?_) AllReadyH.nil
      obtain ⟨⟨z0, z1, z2, z3⟩, z4, z5, z6, z7⟩ := HP_z_j.out.cells
      have y0 := HP_z_j.out.frozen 0
      have y1 := HP_z_j.out.frozen 1
      have y2 := HP_z_j.out.frozen 2
      have y3 := HP_z_j.out.frozen 3
      have y4 := HP_z_j.out.frozen 4
      have y5 := HP_z_j.out.frozen 5
      have y6 := HP_z_j.out.frozen 6
      have y7 := HP_z_j.out.frozen 7
      have z9 := HP_z_j.out.lt
      go_simp
      obtain ⟨v1, hV⟩ : ∃ z, World.setCell (World.setCell (World.setCell (World.setCell (World.setCell (World.setCell (World.setCell (World.setCell v ⟨gz, 0, none⟩ (.bool s4)) ⟨gz, 1, none⟩ (.slice A4 n4 c4)) ⟨gz, 2, none⟩ (.bool t4)) ⟨gz, 3, none⟩ (.slice B4 m4 d4)) ⟨gz, 4, none⟩ (.bool s5)) ⟨gz, 5, none⟩ (.slice A5 n5 c5)) ⟨gz, 6, none⟩ (.bool t5)) ⟨gz, 7, none⟩ (.slice B5 m5 d5) = z := ⟨_, rfl⟩
      rw [hV]
      have HX_1 := Lib.hid (show Below W2.heap.size W2 v1 by rw [← hV]; exact below8 HX_j.out (HG_z_j.out) _ _ _ _ _ _ _ _)
      have F0_1 := Lib.hid (show PF v1 s0 A0 n0 c0 t0 B0 m0 d0 (mkP X D) (mkQ X D) by rw [← hV]; exact PF.apart (F0_j.out) (kp8 _ gz _ _ _ _ _ _ _ _) (noW_of HP_z_j.out rfl))
      have F1_1 := Lib.hid (show PF v1 s1 A1 n1 c1 t1 B1 m1 d1 (mkP Y D) (mkQ Y D) by rw [← hV]; exact PF.apart (F1_j.out) (kp8 _ gz _ _ _ _ _ _ _ _) (noW_of HP_z_j.out rfl))
      have F2_1 := Lib.hid (show PF v1 s2 A2 n2 c2 t2 B2 m2 d2 (mkP X' D') (mkQ X' D') by rw [← hV]; exact PF.apart (F2_j.out) (kp8 _ gz _ _ _ _ _ _ _ _) (noW_of HP_z_j.out rfl))
      have F3_1 := Lib.hid (show PF v1 s3 A3 n3 c3 t3 B3 m3 d3 (mkP Y' D') (mkQ Y' D') by rw [← hV]; exact PF.apart (F3_j.out) (kp8 _ gz _ _ _ _ _ _ _ _) (noW_of HP_z_j.out rfl))
      have F4_1 := Lib.hid (show PF v1 s4 A4 n4 c4 t4 B4 m4 d4 mx mq by rw [← hV]; exact PF.apart (F4_j.out) (kp8 _ gz _ _ _ _ _ _ _ _) (noW_of HP_z_j.out rfl))
      have F5_1 := Lib.hid (show PF v1 s5 A5 n5 c5 t5 B5 m5 d5 my mv by rw [← hV]; exact PF.apart (F5_j.out) (kp8 _ gz _ _ _ _ _ _ _ _) (noW_of HP_z_j.out rfl))
      have HP_z_1 := Lib.hid (show P8 33 v1 gz (.bool s4) (.slice A4 n4 c4) (.bool t4) (.slice B4 m4 d4) (.bool s5) (.slice A5 n5 c5) (.bool t5) (.slice B5 m5 d5) by rw [← hV]; exact HP_z_j.out.all (.bool s4) (.slice A4 n4 c4) (.bool t4) (.slice B4 m4 d4) (.bool s5) (.slice A5 n5 c5) (.bool t5) (.slice B5 m5 d5))
      refine hK.out _ _ (HS.out _ HX_1.out) (fun hHeld2 => ?_)
      clear hHeld
      have hHeld := hHeld2
      clear hHeld2 hK K hV z9 z0 z1 z2 z3 z4 z5 z6 z7 y0 y1 y2 y3 y4 y5 y6 y7 HX_j F0_j F1_j F2_j F3_j F4_j F5_j HP_z_j
      try simp only [Act.put, List.getElem_toArray, List.getElem_cons_zero, List.getElem_cons_succ, List.setIfInBounds_toArray, List.set_cons_zero, List.set_cons_succ]
      refine wpAnyH_take (i := 10) (v := ?_) rfl (by as_aux_lemma => kernel_rfl) (by as_aux_lemma => kernel_rfl) (by as_aux_lemma => kernel_rfl) (fun _ _ _ h => h) (Or.inl ⟨(by as_aux_lemma => kernel_rfl), ?_⟩) (by assumption) ?_
      rotate_left
      · intro w hSw
        (try dsimp only at hSw)
        go_simp
        all_goals (with_reducible rfl)
      try simp only [Act.put, List.getElem_toArray, List.getElem_cons_zero, List.getElem_cons_succ, List.setIfInBounds_toArray, List.set_cons_zero, List.set_cons_succ]
      refine wpAnyH_done (by as_aux_lemma => kernel_rfl) ?_ _
      clear hHeld
      go_wp2_with fail
      go_meet
      exact ⟨gz, s4, A4, n4, c4, t4, B4, m4, d4, s5, A5, n5, c5, t5, B5, m5, d5, rfl, rfl, HP_z_1.out, F4_1.out, F5_1.out, HX_1.out⟩
    have J1_3_4 : ∀ (s0 : Bool) (A0 : Option Addr) (n0 : Nat) (c0 : Nat) (t0 : Bool) (B0 : Option Addr) (m0 : Nat) (d0 : Nat) (s1 : Bool) (A1 : Option Addr) (n1 : Nat) (c1 : Nat) (t1 : Bool) (B1 : Option Addr) (m1 : Nat) (d1 : Nat) (s2 : Bool) (A2 : Option Addr) (n2 : Nat) (c2 : Nat) (t2 : Bool) (B2 : Option Addr) (m2 : Nat) (d2 : Nat) (s3 : Bool) (A3 : Option Addr) (n3 : Nat) (c3 : Nat) (t3 : Bool) (B3 : Option Addr) (m3 : Nat) (d3 : Nat) (s4 : Bool) (A4 : Option Addr) (n4 : Nat) (c4 : Nat) (t4 : Bool) (B4 : Option Addr) (m4 : Nat) (d4 : Nat) (s5 : Bool) (A5 : Option Addr) (n5 : Nat) (c5 : Nat) (t5 : Bool) (B5 : Option Addr) (m5 : Nat) (d5 : Nat) (v : World), Hid (Below W2.heap.size W2 v) → Hid (PF v s0 A0 n0 c0 t0 B0 m0 d0 (mkP X D) (mkQ X D)) → Hid (PF v s1 A1 n1 c1 t1 B1 m1 d1 (mkP Y D) (mkQ Y D)) → Hid (PF v s2 A2 n2 c2 t2 B2 m2 d2 (mkP X' D') (mkQ X' D')) → Hid (PF v s3 A3 n3 c3 t3 B3 m3 d3 (mkP Y' D') (mkQ Y' D')) → Hid (PF v s4 A4 n4 c4 t4 B4 m4 d4 mx mq) → Hid (PF v s5 A5 n5 c5 t5 B5 m5 d5 my mv) → F 3 (Array.setIfInBounds (Array.setIfInBounds (Array.setIfInBounds (Array.setIfInBounds (Array.setIfInBounds (Array.setIfInBounds L0 1 true) 3 true) 4 true) 5 true) 6 true) 7 true) (Act.put (Act.put (Act.put (Act.put (Act.put (Act.put a0 (some 28) (.agg #[.bool s0, .slice A0 n0 c0, .bool t0, .slice B0 m0 d0, .bool s1, .slice A1 n1 c1, .bool t1, .slice B1 m1 d1])) (some 30) (.agg #[.bool s2, .slice A2 n2 c2, .bool t2, .slice B2 m2 d2, .bool s3, .slice A3 n3 c3, .bool t3, .slice B3 m3 d3])) (some 31) (.tuple #[.agg #[.bool s4, .slice A4 n4 c4, .bool t4, .slice B4 m4 d4, .bool s5, .slice A5 n5 c5, .bool t5, .slice B5 m5 d5], .int .i64 0])) (some 26) (.tuple #[.agg #[.bool s4, .slice A4 n4 c4, .bool t4, .slice B4 m4 d4, .bool s5, .slice A5 n5 c5, .bool t5, .slice B5 m5 d5], .int .i64 0])) (some 32) (.agg #[.bool s4, .slice A4 n4 c4, .bool t4, .slice B4 m4 d4, .bool s5, .slice A5 n5 c5, .bool t5, .slice B5 m5 d5])) (some 33) (.int .i64 0)) v := by
      intro s0 A0 n0 c0 t0 B0 m0 d0 s1 A1 n1 c1 t1 B1 m1 d1 s2 A2 n2 c2 t2 B2 m2 d2 s3 A3 n3 c3 t3 B3 m3 d3 s4 A4 n4 c4 t4 B4 m4 d4 s5 A5 n5 c5 t5 B5 m5 d5 v HX_j F0_j F1_j F2_j F3_j F4_j F5_j
      subst hF ha0 hL0
      simp only [Act.put, List.setIfInBounds_toArray, List.set_cons_zero, List.set_cons_succ] at J1_3_4_8 ⊢
      have hHeld := HS.out _ HX_j.out
      refine wpAnyH_ready (rs := [8]) (by as_aux_lemma => kernel_rfl) (by simp) ?_
      refine AllReadyH.cons rfl (fun K hK => ?_) AllReadyH.nil
      go_simp
      have HB_2 := Lib.hid ((Below.refl v.heap.size v).alloc (Nat.le_refl _) (.cells #[.bool false, .slice none 0 0, .bool false, .slice none 0 0, .bool false, .slice none 0 0, .bool false, .slice none 0 0] 33))
      have HP_z_2 := Lib.hid (P8.lit v 33 (.bool false) (.slice none 0 0) (.bool false) (.slice none 0 0) (.bool false) (.slice none 0 0) (.bool false) (.slice none 0 0))
      obtain ⟨v2, hV⟩ : ∃ z, World.alloc v (.cells #[.bool false, .slice none 0 0, .bool false, .slice none 0 0, .bool false, .slice none 0 0, .bool false, .slice none 0 0] 33) = z := ⟨_, rfl⟩
      obtain ⟨gz, hg⟩ : ∃ z, v.heap.size = z := ⟨_, rfl⟩
      rw [hV] at HB_2 HP_z_2  ⊢
      rw [hg] at HP_z_2  ⊢
      have HG_z := Lib.hid (show W2.heap.size ≤ gz by rw [← hg]; exact HX_j.out.size)
      have HX_2 := Lib.hid (bt HX_j.out HB_2.out)
      have F0_2 := Lib.hid ((F0_j.out).new HB_2.out)
      have F1_2 := Lib.hid ((F1_j.out).new HB_2.out)
      have F2_2 := Lib.hid ((F2_j.out).new HB_2.out)
      have F3_2 := Lib.hid ((F3_j.out).new HB_2.out)
      have F4_2 := Lib.hid ((F4_j.out).new HB_2.out)
      have F5_2 := Lib.hid ((F5_j.out).new HB_2.out)
      refine hK.out _ _ (HS.out _ HX_2.out) (fun hHeld2 => ?_)
      clear hHeld
      have hHeld := hHeld2
      clear hHeld2 hK K hV hg HB_2 HX_j F0_j F1_j F2_j F3_j F4_j F5_j
      try simp only [Act.put, List.getElem_toArray, List.getElem_cons_zero, List.getElem_cons_succ, List.setIfInBounds_toArray, List.set_cons_zero, List.set_cons_succ]
      exact wpAnyH_cast (by as_aux_lemma => kernel_rfl) (J1_3_4_8 s0 A0 n0 c0 t0 B0 m0 d0 s1 A1 n1 c1 t1 B1 m1 d1 s2 A2 n2 c2 t2 B2 m2 d2 s3 A3 n3 c3 t3 B3 m3 d3 s4 A4 n4 c4 t4 B4 m4 d4 s5 A5 n5 c5 t5 B5 m5 d5 gz v2 HX_2 F0_2 F1_2 F2_2 F3_2 F4_2 F5_2 HP_z_2 (Lib.hid (HG_z.out)))
    have J1_3_8 : ∀ (s0 : Bool) (A0 : Option Addr) (n0 : Nat) (c0 : Nat) (t0 : Bool) (B0 : Option Addr) (m0 : Nat) (d0 : Nat) (s1 : Bool) (A1 : Option Addr) (n1 : Nat) (c1 : Nat) (t1 : Bool) (B1 : Option Addr) (m1 : Nat) (d1 : Nat) (s2 : Bool) (A2 : Option Addr) (n2 : Nat) (c2 : Nat) (t2 : Bool) (B2 : Option Addr) (m2 : Nat) (d2 : Nat) (s3 : Bool) (A3 : Option Addr) (n3 : Nat) (c3 : Nat) (t3 : Bool) (B3 : Option Addr) (m3 : Nat) (d3 : Nat) (gz : Nat) (v : World), Hid (Below W2.heap.size W2 v) → Hid (PF v s0 A0 n0 c0 t0 B0 m0 d0 (mkP X D) (mkQ X D)) → Hid (PF v s1 A1 n1 c1 t1 B1 m1 d1 (mkP Y D) (mkQ Y D)) → Hid (PF v s2 A2 n2 c2 t2 B2 m2 d2 (mkP X' D') (mkQ X' D')) → Hid (PF v s3 A3 n3 c3 t3 B3 m3 d3 (mkP Y' D') (mkQ Y' D')) → Hid (P8 33 v gz (.bool false) (.slice none 0 0) (.bool false) (.slice none 0 0) (.bool false) (.slice none 0 0) (.bool false) (.slice none 0 0)) → Hid (W2.heap.size ≤ gz) → F 6 (Array.setIfInBounds (Array.setIfInBounds (Array.setIfInBounds L0 1 true) 3 true) 8 true) (Act.put (Act.put (Act.put a0 (some 28) (.agg #[.bool s0, .slice A0 n0 c0, .bool t0, .slice B0 m0 d0, .bool s1, .slice A1 n1 c1, .bool t1, .slice B1 m1 d1])) (some 30) (.agg #[.bool s2, .slice A2 n2 c2, .bool t2, .slice B2 m2 d2, .bool s3, .slice A3 n3 c3, .bool t3, .slice B3 m3 d3])) (some 7) (.pointer (some ⟨gz, 0, none⟩))) v := by
      intro s0 A0 n0 c0 t0 B0 m0 d0 s1 A1 n1 c1 t1 B1 m1 d1 s2 A2 n2 c2 t2 B2 m2 d2 s3 A3 n3 c3 t3 B3 m3 d3 gz v HX_j F0_j F1_j F2_j F3_j HP_z_j HG_z_j
      subst hF ha0 hL0
      simp only [Act.put, List.setIfInBounds_toArray, List.set_cons_zero, List.set_cons_succ] at J1_3_4_8 ⊢
      have hHeld := HS.out _ HX_j.out
      refine wpAnyH_ready (rs := [4]) (by as_aux_lemma => kernel_rfl) (by simp) ?_
      refine AllReadyH.cons rfl (fun K hK => ?_) AllReadyH.nil
      go_simp
      go_at_call 21
      refine (pmid_any (mkP X D) (mkQ X D) (mkP Y D) (mkQ Y D) (mkP X' D') (mkQ X' D') (mkP Y' D') (mkQ Y' D') s0 A0 n0 c0 t0 B0 m0 d0 s1 A1 n1 c1 t1 B1 m1 d1 s2 A2 n2 c2 t2 B2 m2 d2 s3 A3 n3 c3 t3 B3 m3 d3 v F0_j.out F1_j.out F2_j.out F3_j.out ⟨⟨(md_lims (sb_md HSA.out)).1, (md_lims (sb_md HSB.out)).1⟩, (md_lims (sb_md HSA.out)).2, (md_lims (sb_md HSB.out)).2⟩).mono ?_
      rw [HME.out.1, HME.out.2.1, HME.out.2.2.1, HME.out.2.2.2.1, HME.out.2.2.2.2]
      rintro e v3 ⟨s4, A4, n4, c4, t4, B4, m4, d4, s5, A5, n5, c5, t5, B5, m5, d5, rfl, hr1, hr2, hk⟩
      have F4_3 := Lib.hid (hr1)
      have F5_3 := Lib.hid (hr2)
      have HB_3 := Lib.hid hk
      go_wp2_with fail
      have HX_3 := Lib.hid (bt HX_j.out HB_3.out)
      have F0_3 := Lib.hid ((F0_j.out).new HB_3.out)
      have F1_3 := Lib.hid ((F1_j.out).new HB_3.out)
      have F2_3 := Lib.hid ((F2_j.out).new HB_3.out)
      have F3_3 := Lib.hid ((F3_j.out).new HB_3.out)
      have HP_z_3 := Lib.hid (HP_z_j.out.new HB_3.out)
      refine hK.out _ _ (HS.out _ HX_3.out) (fun hHeld2 => ?_)
      clear hHeld
      have hHeld := hHeld2
      clear hHeld2 hK K hk HB_3 hr1 hr2 HX_j F0_j F1_j F2_j F3_j HP_z_j
      try simp only [Act.put, List.getElem_toArray, List.getElem_cons_zero, List.getElem_cons_succ, List.setIfInBounds_toArray, List.set_cons_zero, List.set_cons_succ]
      refine wpAnyH_take (i := 5) (v := ?_) rfl (by as_aux_lemma => kernel_rfl) (by as_aux_lemma => kernel_rfl) (by as_aux_lemma => kernel_rfl) (fun _ _ _ h => h) (Or.inl ⟨(by as_aux_lemma => kernel_rfl), ?_⟩) (by assumption) ?_
      rotate_left
      · intro w hSw
        (try dsimp only at hSw)
        go_simp
        all_goals (with_reducible rfl)
      try simp only [Act.put, List.getElem_toArray, List.getElem_cons_zero, List.getElem_cons_succ, List.setIfInBounds_toArray, List.set_cons_zero, List.set_cons_succ]
      refine wpAnyH_take (i := 6) (v := ?_) rfl (by as_aux_lemma => kernel_rfl) (by as_aux_lemma => kernel_rfl) (by as_aux_lemma => kernel_rfl) (fun _ _ _ h => h) (Or.inl ⟨(by as_aux_lemma => kernel_rfl), ?_⟩) (by assumption) ?_
      rotate_left
      · intro w hSw
        (try dsimp only at hSw)
        go_simp
        all_goals (with_reducible rfl)
      try simp only [Act.put, List.getElem_toArray, List.getElem_cons_zero, List.getElem_cons_succ, List.setIfInBounds_toArray, List.set_cons_zero, List.set_cons_succ]
      refine wpAnyH_take (i := 7) (v := ?_) rfl (by as_aux_lemma => kernel_rfl) (by as_aux_lemma => kernel_rfl) (by as_aux_lemma => kernel_rfl) (fun _ _ _ h => h) (Or.inl ⟨(by as_aux_lemma => kernel_rfl), ?_⟩) (by assumption) ?_
      rotate_left
      · intro w hSw
        (try dsimp only at hSw)
        go_simp
        all_goals (with_reducible rfl)
      try simp only [Act.put, List.getElem_toArray, List.getElem_cons_zero, List.getElem_cons_succ, List.setIfInBounds_toArray, List.set_cons_zero, List.set_cons_succ]
      exact wpAnyH_cast (by as_aux_lemma => kernel_rfl) (J1_3_4_8 s0 A0 n0 c0 t0 B0 m0 d0 s1 A1 n1 c1 t1 B1 m1 d1 s2 A2 n2 c2 t2 B2 m2 d2 s3 A3 n3 c3 t3 B3 m3 d3 s4 A4 n4 c4 t4 B4 m4 d4 s5 A5 n5 c5 t5 B5 m5 d5 gz v3 HX_3 F0_3 F1_3 F2_3 F3_3 F4_3 F5_3 HP_z_3 (Lib.hid (HG_z_j.out)))
    have J1_3 : ∀ (s0 : Bool) (A0 : Option Addr) (n0 : Nat) (c0 : Nat) (t0 : Bool) (B0 : Option Addr) (m0 : Nat) (d0 : Nat) (s1 : Bool) (A1 : Option Addr) (n1 : Nat) (c1 : Nat) (t1 : Bool) (B1 : Option Addr) (m1 : Nat) (d1 : Nat) (s2 : Bool) (A2 : Option Addr) (n2 : Nat) (c2 : Nat) (t2 : Bool) (B2 : Option Addr) (m2 : Nat) (d2 : Nat) (s3 : Bool) (A3 : Option Addr) (n3 : Nat) (c3 : Nat) (t3 : Bool) (B3 : Option Addr) (m3 : Nat) (d3 : Nat) (v : World), Hid (Below W2.heap.size W2 v) → Hid (PF v s0 A0 n0 c0 t0 B0 m0 d0 (mkP X D) (mkQ X D)) → Hid (PF v s1 A1 n1 c1 t1 B1 m1 d1 (mkP Y D) (mkQ Y D)) → Hid (PF v s2 A2 n2 c2 t2 B2 m2 d2 (mkP X' D') (mkQ X' D')) → Hid (PF v s3 A3 n3 c3 t3 B3 m3 d3 (mkP Y' D') (mkQ Y' D')) → F 7 (Array.setIfInBounds (Array.setIfInBounds L0 1 true) 3 true) (Act.put (Act.put a0 (some 28) (.agg #[.bool s0, .slice A0 n0 c0, .bool t0, .slice B0 m0 d0, .bool s1, .slice A1 n1 c1, .bool t1, .slice B1 m1 d1])) (some 30) (.agg #[.bool s2, .slice A2 n2 c2, .bool t2, .slice B2 m2 d2, .bool s3, .slice A3 n3 c3, .bool t3, .slice B3 m3 d3])) v := by
      intro s0 A0 n0 c0 t0 B0 m0 d0 s1 A1 n1 c1 t1 B1 m1 d1 s2 A2 n2 c2 t2 B2 m2 d2 s3 A3 n3 c3 t3 B3 m3 d3 v HX_j F0_j F1_j F2_j F3_j
      subst hF ha0 hL0
      simp only [Act.put, List.setIfInBounds_toArray, List.set_cons_zero, List.set_cons_succ] at J1_3_4 J1_3_8 ⊢
      have hHeld := HS.out _ HX_j.out
      refine wpAnyH_ready (rs := [4, 8]) (by as_aux_lemma => kernel_rfl) (by simp) ?_
      refine AllReadyH.cons rfl (fun K hK => ?_) ?_
      go_simp
      go_at_call 21
      refine (pmid_any (mkP X D) (mkQ X D) (mkP Y D) (mkQ Y D) (mkP X' D') (mkQ X' D') (mkP Y' D') (mkQ Y' D') s0 A0 n0 c0 t0 B0 m0 d0 s1 A1 n1 c1 t1 B1 m1 d1 s2 A2 n2 c2 t2 B2 m2 d2 s3 A3 n3 c3 t3 B3 m3 d3 v F0_j.out F1_j.out F2_j.out F3_j.out ⟨⟨(md_lims (sb_md HSA.out)).1, (md_lims (sb_md HSB.out)).1⟩, (md_lims (sb_md HSA.out)).2, (md_lims (sb_md HSB.out)).2⟩).mono ?_
      rw [HME.out.1, HME.out.2.1, HME.out.2.2.1, HME.out.2.2.2.1, HME.out.2.2.2.2]
      rintro e v4 ⟨s4, A4, n4, c4, t4, B4, m4, d4, s5, A5, n5, c5, t5, B5, m5, d5, rfl, hr1, hr2, hk⟩
      have F4_4 := Lib.hid (hr1)
      have F5_4 := Lib.hid (hr2)
      have HB_4 := Lib.hid hk
      go_wp2_with fail
      have HX_4 := Lib.hid (bt HX_j.out HB_4.out)
      have F0_4 := Lib.hid ((F0_j.out).new HB_4.out)
      have F1_4 := Lib.hid ((F1_j.out).new HB_4.out)
      have F2_4 := Lib.hid ((F2_j.out).new HB_4.out)
      have F3_4 := Lib.hid ((F3_j.out).new HB_4.out)
      refine hK.out _ _ (HS.out _ HX_4.out) (fun hHeld2 => ?_)
      clear hHeld
      have hHeld := hHeld2
      clear hHeld2 hK K hk HB_4 hr1 hr2 HX_j F0_j F1_j F2_j F3_j
      try simp only [Act.put, List.getElem_toArray, List.getElem_cons_zero, List.getElem_cons_succ, List.setIfInBounds_toArray, List.set_cons_zero, List.set_cons_succ]
      refine wpAnyH_take (i := 5) (v := ?_) rfl (by as_aux_lemma => kernel_rfl) (by as_aux_lemma => kernel_rfl) (by as_aux_lemma => kernel_rfl) (fun _ _ _ h => h) (Or.inl ⟨(by as_aux_lemma => kernel_rfl), ?_⟩) (by assumption) ?_
      rotate_left
      · intro w hSw
        (try dsimp only at hSw)
        go_simp
        all_goals (with_reducible rfl)
      try simp only [Act.put, List.getElem_toArray, List.getElem_cons_zero, List.getElem_cons_succ, List.setIfInBounds_toArray, List.set_cons_zero, List.set_cons_succ]
      refine wpAnyH_take (i := 6) (v := ?_) rfl (by as_aux_lemma => kernel_rfl) (by as_aux_lemma => kernel_rfl) (by as_aux_lemma => kernel_rfl) (fun _ _ _ h => h) (Or.inl ⟨(by as_aux_lemma => kernel_rfl), ?_⟩) (by assumption) ?_
      rotate_left
      · intro w hSw
        (try dsimp only at hSw)
        go_simp
        all_goals (with_reducible rfl)
      try simp only [Act.put, List.getElem_toArray, List.getElem_cons_zero, List.getElem_cons_succ, List.setIfInBounds_toArray, List.set_cons_zero, List.set_cons_succ]
      refine wpAnyH_take (i := 7) (v := ?_) rfl (by as_aux_lemma => kernel_rfl) (by as_aux_lemma => kernel_rfl) (by as_aux_lemma => kernel_rfl) (fun _ _ _ h => h) (Or.inl ⟨(by as_aux_lemma => kernel_rfl), ?_⟩) (by assumption) ?_
      rotate_left
      · intro w hSw
        (try dsimp only at hSw)
        go_simp
        all_goals (with_reducible rfl)
      try simp only [Act.put, List.getElem_toArray, List.getElem_cons_zero, List.getElem_cons_succ, List.setIfInBounds_toArray, List.set_cons_zero, List.set_cons_succ]
      exact wpAnyH_cast (by as_aux_lemma => kernel_rfl) (J1_3_4 s0 A0 n0 c0 t0 B0 m0 d0 s1 A1 n1 c1 t1 B1 m1 d1 s2 A2 n2 c2 t2 B2 m2 d2 s3 A3 n3 c3 t3 B3 m3 d3 s4 A4 n4 c4 t4 B4 m4 d4 s5 A5 n5 c5 t5 B5 m5 d5 v4 HX_4 F0_4 F1_4 F2_4 F3_4 F4_4 F5_4)
      refine AllReadyH.cons rfl (fun K hK => ?_) AllReadyH.nil
      go_simp
      have HB_5 := Lib.hid ((Below.refl v.heap.size v).alloc (Nat.le_refl _) (.cells #[.bool false, .slice none 0 0, .bool false, .slice none 0 0, .bool false, .slice none 0 0, .bool false, .slice none 0 0] 33))
      have HP_z_5 := Lib.hid (P8.lit v 33 (.bool false) (.slice none 0 0) (.bool false) (.slice none 0 0) (.bool false) (.slice none 0 0) (.bool false) (.slice none 0 0))
      obtain ⟨v5, hV⟩ : ∃ z, World.alloc v (.cells #[.bool false, .slice none 0 0, .bool false, .slice none 0 0, .bool false, .slice none 0 0, .bool false, .slice none 0 0] 33) = z := ⟨_, rfl⟩
      obtain ⟨gz, hg⟩ : ∃ z, v.heap.size = z := ⟨_, rfl⟩
      rw [hV] at HB_5 HP_z_5  ⊢
      rw [hg] at HP_z_5  ⊢
      have HG_z := Lib.hid (show W2.heap.size ≤ gz by rw [← hg]; exact HX_j.out.size)
      have HX_5 := Lib.hid (bt HX_j.out HB_5.out)
      have F0_5 := Lib.hid ((F0_j.out).new HB_5.out)
      have F1_5 := Lib.hid ((F1_j.out).new HB_5.out)
      have F2_5 := Lib.hid ((F2_j.out).new HB_5.out)
      have F3_5 := Lib.hid ((F3_j.out).new HB_5.out)
      refine hK.out _ _ (HS.out _ HX_5.out) (fun hHeld2 => ?_)
      clear hHeld
      have hHeld := hHeld2
      clear hHeld2 hK K hV hg HB_5 HX_j F0_j F1_j F2_j F3_j
      try simp only [Act.put, List.getElem_toArray, List.getElem_cons_zero, List.getElem_cons_succ, List.setIfInBounds_toArray, List.set_cons_zero, List.set_cons_succ]
      exact wpAnyH_cast (by as_aux_lemma => kernel_rfl) (J1_3_8 s0 A0 n0 c0 t0 B0 m0 d0 s1 A1 n1 c1 t1 B1 m1 d1 s2 A2 n2 c2 t2 B2 m2 d2 s3 A3 n3 c3 t3 B3 m3 d3 gz v5 HX_5 F0_5 F1_5 F2_5 F3_5 HP_z_5 (Lib.hid (HG_z.out)))
    have J1_8 : ∀ (s0 : Bool) (A0 : Option Addr) (n0 : Nat) (c0 : Nat) (t0 : Bool) (B0 : Option Addr) (m0 : Nat) (d0 : Nat) (s1 : Bool) (A1 : Option Addr) (n1 : Nat) (c1 : Nat) (t1 : Bool) (B1 : Option Addr) (m1 : Nat) (d1 : Nat) (gz : Nat) (v : World), Hid (Below W2.heap.size W2 v) → Hid (PF v s0 A0 n0 c0 t0 B0 m0 d0 (mkP X D) (mkQ X D)) → Hid (PF v s1 A1 n1 c1 t1 B1 m1 d1 (mkP Y D) (mkQ Y D)) → Hid (P8 33 v gz (.bool false) (.slice none 0 0) (.bool false) (.slice none 0 0) (.bool false) (.slice none 0 0) (.bool false) (.slice none 0 0)) → Hid (W2.heap.size ≤ gz) → F 7 (Array.setIfInBounds (Array.setIfInBounds L0 1 true) 8 true) (Act.put (Act.put a0 (some 28) (.agg #[.bool s0, .slice A0 n0 c0, .bool t0, .slice B0 m0 d0, .bool s1, .slice A1 n1 c1, .bool t1, .slice B1 m1 d1])) (some 7) (.pointer (some ⟨gz, 0, none⟩))) v := by
      intro s0 A0 n0 c0 t0 B0 m0 d0 s1 A1 n1 c1 t1 B1 m1 d1 gz v HX_j F0_j F1_j HP_z_j HG_z_j
      subst hF ha0 hL0
      simp only [Act.put, List.setIfInBounds_toArray, List.set_cons_zero, List.set_cons_succ] at J1_3_8 ⊢
      have hHeld := HS.out _ HX_j.out
      refine wpAnyH_ready (rs := [3]) (by as_aux_lemma => kernel_rfl) (by simp) ?_
      refine AllReadyH.cons rfl (fun K hK => ?_) AllReadyH.nil
      go_simp
      go_at_call 10
      refine (real_any X' Y' D' v (md_wf (sb_md HSB.out)).1 (md_wf (sb_md HSB.out)).2.1 (md_wf (sb_md HSB.out)).2.2).mono ?_
      rintro e v6 ⟨s2, A2, n2, c2, t2, B2, m2, d2, s3, A3, n3, c3, t3, B3, m3, d3, rfl, hr1, hr2, hk⟩
      have F2_6 := Lib.hid (hr1)
      have F3_6 := Lib.hid (hr2)
      have HB_6 := Lib.hid hk
      go_wp2_with fail
      have HX_6 := Lib.hid (bt HX_j.out HB_6.out)
      have F0_6 := Lib.hid ((F0_j.out).new HB_6.out)
      have F1_6 := Lib.hid ((F1_j.out).new HB_6.out)
      have HP_z_6 := Lib.hid (HP_z_j.out.new HB_6.out)
      refine hK.out _ _ (HS.out _ HX_6.out) (fun hHeld2 => ?_)
      clear hHeld
      have hHeld := hHeld2
      clear hHeld2 hK K hk HB_6 hr1 hr2 HX_j F0_j F1_j HP_z_j
      try simp only [Act.put, List.getElem_toArray, List.getElem_cons_zero, List.getElem_cons_succ, List.setIfInBounds_toArray, List.set_cons_zero, List.set_cons_succ]
      exact wpAnyH_cast (by as_aux_lemma => kernel_rfl) (J1_3_8 s0 A0 n0 c0 t0 B0 m0 d0 s1 A1 n1 c1 t1 B1 m1 d1 s2 A2 n2 c2 t2 B2 m2 d2 s3 A3 n3 c3 t3 B3 m3 d3 gz v6 HX_6 F0_6 F1_6 F2_6 F3_6 HP_z_6 (Lib.hid (HG_z_j.out)))
    have J1 : ∀ (s0 : Bool) (A0 : Option Addr) (n0 : Nat) (c0 : Nat) (t0 : Bool) (B0 : Option Addr) (m0 : Nat) (d0 : Nat) (s1 : Bool) (A1 : Option Addr) (n1 : Nat) (c1 : Nat) (t1 : Bool) (B1 : Option Addr) (m1 : Nat) (d1 : Nat) (v : World), Hid (Below W2.heap.size W2 v) → Hid (PF v s0 A0 n0 c0 t0 B0 m0 d0 (mkP X D) (mkQ X D)) → Hid (PF v s1 A1 n1 c1 t1 B1 m1 d1 (mkP Y D) (mkQ Y D)) → F 8 (Array.setIfInBounds L0 1 true) (Act.put a0 (some 28) (.agg #[.bool s0, .slice A0 n0 c0, .bool t0, .slice B0 m0 d0, .bool s1, .slice A1 n1 c1, .bool t1, .slice B1 m1 d1])) v := by
      intro s0 A0 n0 c0 t0 B0 m0 d0 s1 A1 n1 c1 t1 B1 m1 d1 v HX_j F0_j F1_j
      subst hF ha0 hL0
      simp only [Act.put, List.setIfInBounds_toArray, List.set_cons_zero, List.set_cons_succ] at J1_3 J1_8 ⊢
      have hHeld := HS.out _ HX_j.out
      refine wpAnyH_ready (rs := [3, 8]) (by as_aux_lemma => kernel_rfl) (by simp) ?_
      refine AllReadyH.cons rfl (fun K hK => ?_) ?_
      go_simp
      go_at_call 10
      refine (real_any X' Y' D' v (md_wf (sb_md HSB.out)).1 (md_wf (sb_md HSB.out)).2.1 (md_wf (sb_md HSB.out)).2.2).mono ?_
      rintro e v7 ⟨s2, A2, n2, c2, t2, B2, m2, d2, s3, A3, n3, c3, t3, B3, m3, d3, rfl, hr1, hr2, hk⟩
      have F2_7 := Lib.hid (hr1)
      have F3_7 := Lib.hid (hr2)
      have HB_7 := Lib.hid hk
      go_wp2_with fail
      have HX_7 := Lib.hid (bt HX_j.out HB_7.out)
      have F0_7 := Lib.hid ((F0_j.out).new HB_7.out)
      have F1_7 := Lib.hid ((F1_j.out).new HB_7.out)
      refine hK.out _ _ (HS.out _ HX_7.out) (fun hHeld2 => ?_)
      clear hHeld
      have hHeld := hHeld2
      clear hHeld2 hK K hk HB_7 hr1 hr2 HX_j F0_j F1_j
      try simp only [Act.put, List.getElem_toArray, List.getElem_cons_zero, List.getElem_cons_succ, List.setIfInBounds_toArray, List.set_cons_zero, List.set_cons_succ]
      exact wpAnyH_cast (by as_aux_lemma => kernel_rfl) (J1_3 s0 A0 n0 c0 t0 B0 m0 d0 s1 A1 n1 c1 t1 B1 m1 d1 s2 A2 n2 c2 t2 B2 m2 d2 s3 A3 n3 c3 t3 B3 m3 d3 v7 HX_7 F0_7 F1_7 F2_7 F3_7)
      refine AllReadyH.cons rfl (fun K hK => ?_) AllReadyH.nil
      go_simp
      have HB_8 := Lib.hid ((Below.refl v.heap.size v).alloc (Nat.le_refl _) (.cells #[.bool false, .slice none 0 0, .bool false, .slice none 0 0, .bool false, .slice none 0 0, .bool false, .slice none 0 0] 33))
      have HP_z_8 := Lib.hid (P8.lit v 33 (.bool false) (.slice none 0 0) (.bool false) (.slice none 0 0) (.bool false) (.slice none 0 0) (.bool false) (.slice none 0 0))
      obtain ⟨v8, hV⟩ : ∃ z, World.alloc v (.cells #[.bool false, .slice none 0 0, .bool false, .slice none 0 0, .bool false, .slice none 0 0, .bool false, .slice none 0 0] 33) = z := ⟨_, rfl⟩
      obtain ⟨gz, hg⟩ : ∃ z, v.heap.size = z := ⟨_, rfl⟩
      rw [hV] at HB_8 HP_z_8  ⊢
      rw [hg] at HP_z_8  ⊢
      have HG_z := Lib.hid (show W2.heap.size ≤ gz by rw [← hg]; exact HX_j.out.size)
      have HX_8 := Lib.hid (bt HX_j.out HB_8.out)
      have F0_8 := Lib.hid ((F0_j.out).new HB_8.out)
      have F1_8 := Lib.hid ((F1_j.out).new HB_8.out)
      refine hK.out _ _ (HS.out _ HX_8.out) (fun hHeld2 => ?_)
      clear hHeld
      have hHeld := hHeld2
      clear hHeld2 hK K hV hg HB_8 HX_j F0_j F1_j
      try simp only [Act.put, List.getElem_toArray, List.getElem_cons_zero, List.getElem_cons_succ, List.setIfInBounds_toArray, List.set_cons_zero, List.set_cons_succ]
      exact wpAnyH_cast (by as_aux_lemma => kernel_rfl) (J1_8 s0 A0 n0 c0 t0 B0 m0 d0 s1 A1 n1 c1 t1 B1 m1 d1 gz v8 HX_8 F0_8 F1_8 HP_z_8 (Lib.hid (HG_z.out)))
    have J8 : ∀ (gz : Nat) (v : World), Hid (Below W2.heap.size W2 v) → Hid (P8 33 v gz (.bool false) (.slice none 0 0) (.bool false) (.slice none 0 0) (.bool false) (.slice none 0 0) (.bool false) (.slice none 0 0)) → Hid (W2.heap.size ≤ gz) → F 8 (Array.setIfInBounds L0 8 true) (Act.put a0 (some 7) (.pointer (some ⟨gz, 0, none⟩))) v := by
      intro gz v HX_j HP_z_j HG_z_j
      subst hF ha0 hL0
      simp only [Act.put, List.setIfInBounds_toArray, List.set_cons_zero, List.set_cons_succ] at J1_8 ⊢
      have hHeld := HS.out _ HX_j.out
      refine wpAnyH_ready (rs := [1]) (by as_aux_lemma => kernel_rfl) (by simp) ?_
      refine AllReadyH.cons rfl (fun K hK => ?_) AllReadyH.nil
      go_simp
      go_at_call 10
      refine (real_any X Y D v (md_wf (sb_md HSA.out)).1 (md_wf (sb_md HSA.out)).2.1 (md_wf (sb_md HSA.out)).2.2).mono ?_
      rintro e v9 ⟨s0, A0, n0, c0, t0, B0, m0, d0, s1, A1, n1, c1, t1, B1, m1, d1, rfl, hr1, hr2, hk⟩
      have F0_9 := Lib.hid (hr1)
      have F1_9 := Lib.hid (hr2)
      have HB_9 := Lib.hid hk
      go_wp2_with fail
      have HX_9 := Lib.hid (bt HX_j.out HB_9.out)
      have HP_z_9 := Lib.hid (HP_z_j.out.new HB_9.out)
      refine hK.out _ _ (HS.out _ HX_9.out) (fun hHeld2 => ?_)
      clear hHeld
      have hHeld := hHeld2
      clear hHeld2 hK K hk HB_9 hr1 hr2 HX_j HP_z_j
      try simp only [Act.put, List.getElem_toArray, List.getElem_cons_zero, List.getElem_cons_succ, List.setIfInBounds_toArray, List.set_cons_zero, List.set_cons_succ]
      exact wpAnyH_cast (by as_aux_lemma => kernel_rfl) (J1_8 s0 A0 n0 c0 t0 B0 m0 d0 s1 A1 n1 c1 t1 B1 m1 d1 gz v9 HX_9 F0_9 F1_9 HP_z_9 (Lib.hid (HG_z_j.out)))
    subst hF ha0 hL0
    simp only [Act.put, List.setIfInBounds_toArray, List.set_cons_zero, List.set_cons_succ] at J1 J8
    refine wpAnyH_ready (rs := [1, 8]) (by as_aux_lemma => kernel_rfl) (by simp) ?_
    refine AllReadyH.cons rfl (fun K hK => ?_) ?_
    go_simp
    go_at_call 10
    refine (real_any X Y D v0 (md_wf (sb_md HSA.out)).1 (md_wf (sb_md HSA.out)).2.1 (md_wf (sb_md HSA.out)).2.2).mono ?_
    rintro e v10 ⟨s0, A0, n0, c0, t0, B0, m0, d0, s1, A1, n1, c1, t1, B1, m1, d1, rfl, hr1, hr2, hk⟩
    have F0_10 := Lib.hid (hr1)
    have F1_10 := Lib.hid (hr2)
    have HB_10 := Lib.hid hk
    go_wp2_with fail
    have HX_10 := Lib.hid (bt HD0.out HB_10.out)
    refine hK.out _ _ (HS.out _ HX_10.out) (fun hHeld2 => ?_)
    clear hHeld
    have hHeld := hHeld2
    clear hHeld2 hK K hk HB_10 hr1 hr2 HD0
    try simp only [Act.put, List.getElem_toArray, List.getElem_cons_zero, List.getElem_cons_succ, List.setIfInBounds_toArray, List.set_cons_zero, List.set_cons_succ]
    exact wpAnyH_cast (by as_aux_lemma => kernel_rfl) (J1 s0 A0 n0 c0 t0 B0 m0 d0 s1 A1 n1 c1 t1 B1 m1 d1 v10 HX_10 F0_10 F1_10)
    refine AllReadyH.cons rfl (fun K hK => ?_) AllReadyH.nil
    go_simp
    have HB_11 := Lib.hid ((Below.refl v0.heap.size v0).alloc (Nat.le_refl _) (.cells #[.bool false, .slice none 0 0, .bool false, .slice none 0 0, .bool false, .slice none 0 0, .bool false, .slice none 0 0] 33))
    have HP_z_11 := Lib.hid (P8.lit v0 33 (.bool false) (.slice none 0 0) (.bool false) (.slice none 0 0) (.bool false) (.slice none 0 0) (.bool false) (.slice none 0 0))
    obtain ⟨v11, hV⟩ : ∃ z, World.alloc v0 (.cells #[.bool false, .slice none 0 0, .bool false, .slice none 0 0, .bool false, .slice none 0 0, .bool false, .slice none 0 0] 33) = z := ⟨_, rfl⟩
    obtain ⟨gz, hg⟩ : ∃ z, v0.heap.size = z := ⟨_, rfl⟩
    rw [hV] at HB_11 HP_z_11  ⊢
    rw [hg] at HP_z_11  ⊢
    have HG_z := Lib.hid (show W2.heap.size ≤ gz by rw [← hg]; exact HD0.out.size)
    have HX_11 := Lib.hid (bt HD0.out HB_11.out)
    refine hK.out _ _ (HS.out _ HX_11.out) (fun hHeld2 => ?_)
    clear hHeld
    have hHeld := hHeld2
    clear hHeld2 hK K hV hg HB_11 HD0
    try simp only [Act.put, List.getElem_toArray, List.getElem_cons_zero, List.getElem_cons_succ, List.setIfInBounds_toArray, List.set_cons_zero, List.set_cons_succ]
    exact wpAnyH_cast (by as_aux_lemma => kernel_rfl) (J8 gz v11 HX_11 HP_z_11 (Lib.hid (HG_z.out)))
  case rest =>
    obtain ⟨gm, s4, A4, n4, c4, t4, B4, m4, d4, s5, A5, n5, c5, t5, B5, m5, d5, rfl, rfl, hq, h4, h5, hbx⟩ := hcut
    obtain ⟨W3, rfl⟩ := nm_world hbx
    have HQm := Lib.hid hq
    have H4 := Lib.hid h4
    have H5 := Lib.hid h5
    have HA_W3 := Lib.hid (HA.out.new hbx)
    have HB_W3 := Lib.hid (HB.out.new hbx)
    have HW3 := Lib.hid (bt HW2.out hbx)
    clear hq h4 h5 hbx HA HB HW2 HXX HME
    have HXX := Lib.hid (Below.refl W3.heap.size W3)
    go_upto_region 4 with fail
    go_cut [9, 10] (fun tp tc wx => ∃ (q : Nat) (s6 : Bool) (A6 : Option Addr) (n6 c6 : Nat) (t6 : Bool) (B6 : Option Addr) (m6 d6 : Nat) (s7 : Bool) (A7 : Option Addr) (n7 c7 : Nat) (t7 : Bool) (B7 : Option Addr) (m7 d7 : Nat), tp = .pointer (some ⟨q, 0, none⟩) ∧ tc = .int .i64 0 ∧ P8 33 wx q (.bool s6) (.slice A6 n6 c6) (.bool t6) (.slice B6 m6 d6) (.bool s7) (.slice A7 n7 c7) (.bool t7) (.slice B7 m7 d7) ∧ PF wx s6 A6 n6 c6 t6 B6 m6 d6 mx mq ∧ PF wx s7 A7 n7 c7 t7 B7 m7 d7 my mv ∧ Below W3.heap.size W3 wx)
    case first =>
      have HS : Hid (∀ w', Below W3.heap.size W3 w' → (fun w' : World => w'.cell? ⟨gA, 0, none⟩ = some (.int .i64 X) ∧ w'.cell? ⟨gA, 1, none⟩ = some (.int .i64 Y) ∧ w'.cell? ⟨gA, 2, none⟩ = some (.int .i64 D) ∧ w'.cell? ⟨gB, 0, none⟩ = some (.int .i64 X') ∧ w'.cell? ⟨gB, 1, none⟩ = some (.int .i64 Y') ∧ w'.cell? ⟨gB, 2, none⟩ = some (.int .i64 D') ∧ Below W3.heap.size W3 w') w') := Lib.hid (fun w' hb => ⟨(HA_W3.out.new hb).cells.1, (HA_W3.out.new hb).cells.2.1, (HA_W3.out.new hb).cells.2.2, (HB_W3.out.new hb).cells.1, (HB_W3.out.new hb).cells.2.1, (HB_W3.out.new hb).cells.2.2, hb⟩)
      have HX_0 := HXX
      obtain ⟨v0, hv0⟩ : ∃ z, World.drew W3 = z := ⟨_, rfl⟩
      have HD0 := Lib.hid (show Below W3.heap.size W3 v0 by rw [← hv0]; exact (Below.refl _ _).drew)
      refine wp_region_held_drew (S := (fun w' : World => w'.cell? ⟨gA, 0, none⟩ = some (.int .i64 X) ∧ w'.cell? ⟨gA, 1, none⟩ = some (.int .i64 Y) ∧ w'.cell? ⟨gA, 2, none⟩ = some (.int .i64 D) ∧ w'.cell? ⟨gB, 0, none⟩ = some (.int .i64 X') ∧ w'.cell? ⟨gB, 1, none⟩ = some (.int .i64 Y') ∧ w'.cell? ⟨gB, 2, none⟩ = some (.int .i64 D') ∧ Below W3.heap.size W3 w')) (by as_aux_lemma => kernel_rfl) ?_ (fun hHeld => ?_)
      · rw [hv0]
        exact HS.out _ HD0.out
      rw [hv0] at hHeld ⊢
      clear hv0 HX_0
      refine wpAnyH_take (i := 0) (v := ?_) rfl (by as_aux_lemma => kernel_rfl) (by as_aux_lemma => kernel_rfl) (by as_aux_lemma => kernel_rfl) (fun _ _ _ h => h) (Or.inl ⟨(by as_aux_lemma => kernel_rfl), ?_⟩) (by assumption) ?_
      rotate_left
      · intro w hSw
        (try dsimp only at hSw)
        go_simp
        all_goals (with_reducible rfl)
      try simp only [Act.put, List.getElem_toArray, List.getElem_cons_zero, List.setIfInBounds_toArray, List.set_cons_zero, List.set_cons_succ]
      refine wpAnyH_take (i := 2) (v := ?_) rfl (by as_aux_lemma => kernel_rfl) (by as_aux_lemma => kernel_rfl) (by as_aux_lemma => kernel_rfl) (fun _ _ _ h => h) (Or.inl ⟨(by as_aux_lemma => kernel_rfl), ?_⟩) (by assumption) ?_
      rotate_left
      · intro w hSw
        (try dsimp only at hSw)
        go_simp
        all_goals (with_reducible rfl)
      try simp only [Act.put, List.getElem_toArray, List.getElem_cons_zero, List.getElem_cons_succ, List.setIfInBounds_toArray, List.set_cons_zero, List.set_cons_succ]
      refine wpAnyH_name (fun F hF a0 ha0 L0 hL0 => ?_)
      have J1_3_4_8 : ∀ (s0 : Bool) (A0 : Option Addr) (n0 : Nat) (c0 : Nat) (t0 : Bool) (B0 : Option Addr) (m0 : Nat) (d0 : Nat) (s1 : Bool) (A1 : Option Addr) (n1 : Nat) (c1 : Nat) (t1 : Bool) (B1 : Option Addr) (m1 : Nat) (d1 : Nat) (s2 : Bool) (A2 : Option Addr) (n2 : Nat) (c2 : Nat) (t2 : Bool) (B2 : Option Addr) (m2 : Nat) (d2 : Nat) (s3 : Bool) (A3 : Option Addr) (n3 : Nat) (c3 : Nat) (t3 : Bool) (B3 : Option Addr) (m3 : Nat) (d3 : Nat) (s6 : Bool) (A6 : Option Addr) (n6 : Nat) (c6 : Nat) (t6 : Bool) (B6 : Option Addr) (m6 : Nat) (d6 : Nat) (s7 : Bool) (A7 : Option Addr) (n7 : Nat) (c7 : Nat) (t7 : Bool) (B7 : Option Addr) (m7 : Nat) (d7 : Nat) (gz : Nat) (v : World), Hid (Below W3.heap.size W3 v) → Hid (PF v s0 A0 n0 c0 t0 B0 m0 d0 (mkP X' D') (mkQ X' D')) → Hid (PF v s1 A1 n1 c1 t1 B1 m1 d1 (mkP Y' D') (mkQ Y' D')) → Hid (PF v s2 A2 n2 c2 t2 B2 m2 d2 (mkP X D) (mkQ X D)) → Hid (PF v s3 A3 n3 c3 t3 B3 m3 d3 (mkP Y D) (mkQ Y D)) → Hid (PF v s6 A6 n6 c6 t6 B6 m6 d6 mx mq) → Hid (PF v s7 A7 n7 c7 t7 B7 m7 d7 my mv) → Hid (P8 33 v gz (.bool false) (.slice none 0 0) (.bool false) (.slice none 0 0) (.bool false) (.slice none 0 0) (.bool false) (.slice none 0 0)) → Hid (W3.heap.size ≤ gz) → F 2 (Array.setIfInBounds (Array.setIfInBounds (Array.setIfInBounds (Array.setIfInBounds (Array.setIfInBounds (Array.setIfInBounds (Array.setIfInBounds L0 1 true) 3 true) 4 true) 8 true) 5 true) 6 true) 7 true) (Act.put (Act.put (Act.put (Act.put (Act.put (Act.put (Act.put a0 (some 36) (.agg #[.bool s0, .slice A0 n0 c0, .bool t0, .slice B0 m0 d0, .bool s1, .slice A1 n1 c1, .bool t1, .slice B1 m1 d1])) (some 38) (.agg #[.bool s2, .slice A2 n2 c2, .bool t2, .slice B2 m2 d2, .bool s3, .slice A3 n3 c3, .bool t3, .slice B3 m3 d3])) (some 39) (.tuple #[.agg #[.bool s6, .slice A6 n6 c6, .bool t6, .slice B6 m6 d6, .bool s7, .slice A7 n7 c7, .bool t7, .slice B7 m7 d7], .int .i64 0])) (some 9) (.pointer (some ⟨gz, 0, none⟩))) (some 34) (.tuple #[.agg #[.bool s6, .slice A6 n6 c6, .bool t6, .slice B6 m6 d6, .bool s7, .slice A7 n7 c7, .bool t7, .slice B7 m7 d7], .int .i64 0])) (some 40) (.agg #[.bool s6, .slice A6 n6 c6, .bool t6, .slice B6 m6 d6, .bool s7, .slice A7 n7 c7, .bool t7, .slice B7 m7 d7])) (some 41) (.int .i64 0)) v := by
        intro s0 A0 n0 c0 t0 B0 m0 d0 s1 A1 n1 c1 t1 B1 m1 d1 s2 A2 n2 c2 t2 B2 m2 d2 s3 A3 n3 c3 t3 B3 m3 d3 s6 A6 n6 c6 t6 B6 m6 d6 s7 A7 n7 c7 t7 B7 m7 d7 gz v HX_j F0_j F1_j F2_j F3_j F6_j F7_j HP_z_j HG_z_j
        subst hF ha0 hL0
        simp only [Act.put, List.setIfInBounds_toArray, List.set_cons_zero, List.set_cons_succ] at  ⊢
        have hHeld := HS.out _ HX_j.out
        refine wpAnyH_ready (rs := [9]) (by as_aux_lemma => kernel_rfl) (by simp) ?_
        refine AllReadyH.cons rfl (fun K hK => ?_) AllReadyH.nil
        obtain ⟨⟨z0, z1, z2, z3⟩, z4, z5, z6, z7⟩ := HP_z_j.out.cells
        have y0 := HP_z_j.out.frozen 0
        have y1 := HP_z_j.out.frozen 1
        have y2 := HP_z_j.out.frozen 2
        have y3 := HP_z_j.out.frozen 3
        have y4 := HP_z_j.out.frozen 4
        have y5 := HP_z_j.out.frozen 5
        have y6 := HP_z_j.out.frozen 6
        have y7 := HP_z_j.out.frozen 7
        have z9 := HP_z_j.out.lt
        go_simp
        obtain ⟨v1, hV⟩ : ∃ z, World.setCell (World.setCell (World.setCell (World.setCell (World.setCell (World.setCell (World.setCell (World.setCell v ⟨gz, 0, none⟩ (.bool s6)) ⟨gz, 1, none⟩ (.slice A6 n6 c6)) ⟨gz, 2, none⟩ (.bool t6)) ⟨gz, 3, none⟩ (.slice B6 m6 d6)) ⟨gz, 4, none⟩ (.bool s7)) ⟨gz, 5, none⟩ (.slice A7 n7 c7)) ⟨gz, 6, none⟩ (.bool t7)) ⟨gz, 7, none⟩ (.slice B7 m7 d7) = z := ⟨_, rfl⟩
        rw [hV]
        have HX_1 := Lib.hid (show Below W3.heap.size W3 v1 by rw [← hV]; exact below8 HX_j.out (HG_z_j.out) _ _ _ _ _ _ _ _)
        have F0_1 := Lib.hid (show PF v1 s0 A0 n0 c0 t0 B0 m0 d0 (mkP X' D') (mkQ X' D') by rw [← hV]; exact PF.apart (F0_j.out) (kp8 _ gz _ _ _ _ _ _ _ _) (noW_of HP_z_j.out rfl))
        have F1_1 := Lib.hid (show PF v1 s1 A1 n1 c1 t1 B1 m1 d1 (mkP Y' D') (mkQ Y' D') by rw [← hV]; exact PF.apart (F1_j.out) (kp8 _ gz _ _ _ _ _ _ _ _) (noW_of HP_z_j.out rfl))
        have F2_1 := Lib.hid (show PF v1 s2 A2 n2 c2 t2 B2 m2 d2 (mkP X D) (mkQ X D) by rw [← hV]; exact PF.apart (F2_j.out) (kp8 _ gz _ _ _ _ _ _ _ _) (noW_of HP_z_j.out rfl))
        have F3_1 := Lib.hid (show PF v1 s3 A3 n3 c3 t3 B3 m3 d3 (mkP Y D) (mkQ Y D) by rw [← hV]; exact PF.apart (F3_j.out) (kp8 _ gz _ _ _ _ _ _ _ _) (noW_of HP_z_j.out rfl))
        have F6_1 := Lib.hid (show PF v1 s6 A6 n6 c6 t6 B6 m6 d6 mx mq by rw [← hV]; exact PF.apart (F6_j.out) (kp8 _ gz _ _ _ _ _ _ _ _) (noW_of HP_z_j.out rfl))
        have F7_1 := Lib.hid (show PF v1 s7 A7 n7 c7 t7 B7 m7 d7 my mv by rw [← hV]; exact PF.apart (F7_j.out) (kp8 _ gz _ _ _ _ _ _ _ _) (noW_of HP_z_j.out rfl))
        have HP_z_1 := Lib.hid (show P8 33 v1 gz (.bool s6) (.slice A6 n6 c6) (.bool t6) (.slice B6 m6 d6) (.bool s7) (.slice A7 n7 c7) (.bool t7) (.slice B7 m7 d7) by rw [← hV]; exact HP_z_j.out.all (.bool s6) (.slice A6 n6 c6) (.bool t6) (.slice B6 m6 d6) (.bool s7) (.slice A7 n7 c7) (.bool t7) (.slice B7 m7 d7))
        refine hK.out _ _ (HS.out _ HX_1.out) (fun hHeld2 => ?_)
        clear hHeld
        have hHeld := hHeld2
        clear hHeld2 hK K hV z9 z0 z1 z2 z3 z4 z5 z6 z7 y0 y1 y2 y3 y4 y5 y6 y7 HX_j F0_j F1_j F2_j F3_j F6_j F7_j HP_z_j
        try simp only [Act.put, List.getElem_toArray, List.getElem_cons_zero, List.getElem_cons_succ, List.setIfInBounds_toArray, List.set_cons_zero, List.set_cons_succ]
        refine wpAnyH_take (i := 10) (v := ?_) rfl (by as_aux_lemma => kernel_rfl) (by as_aux_lemma => kernel_rfl) (by as_aux_lemma => kernel_rfl) (fun _ _ _ h => h) (Or.inl ⟨(by as_aux_lemma => kernel_rfl), ?_⟩) (by assumption) ?_
        rotate_left
        · intro w hSw
          (try dsimp only at hSw)
          go_simp
          all_goals (with_reducible rfl)
        try simp only [Act.put, List.getElem_toArray, List.getElem_cons_zero, List.getElem_cons_succ, List.setIfInBounds_toArray, List.set_cons_zero, List.set_cons_succ]
        refine wpAnyH_done (by as_aux_lemma => kernel_rfl) ?_ _
        clear hHeld
        go_wp2_with fail
        go_meet
        exact ⟨gz, s6, A6, n6, c6, t6, B6, m6, d6, s7, A7, n7, c7, t7, B7, m7, d7, rfl, rfl, HP_z_1.out, F6_1.out, F7_1.out, HX_1.out⟩
      have J1_3_4 : ∀ (s0 : Bool) (A0 : Option Addr) (n0 : Nat) (c0 : Nat) (t0 : Bool) (B0 : Option Addr) (m0 : Nat) (d0 : Nat) (s1 : Bool) (A1 : Option Addr) (n1 : Nat) (c1 : Nat) (t1 : Bool) (B1 : Option Addr) (m1 : Nat) (d1 : Nat) (s2 : Bool) (A2 : Option Addr) (n2 : Nat) (c2 : Nat) (t2 : Bool) (B2 : Option Addr) (m2 : Nat) (d2 : Nat) (s3 : Bool) (A3 : Option Addr) (n3 : Nat) (c3 : Nat) (t3 : Bool) (B3 : Option Addr) (m3 : Nat) (d3 : Nat) (s6 : Bool) (A6 : Option Addr) (n6 : Nat) (c6 : Nat) (t6 : Bool) (B6 : Option Addr) (m6 : Nat) (d6 : Nat) (s7 : Bool) (A7 : Option Addr) (n7 : Nat) (c7 : Nat) (t7 : Bool) (B7 : Option Addr) (m7 : Nat) (d7 : Nat) (v : World), Hid (Below W3.heap.size W3 v) → Hid (PF v s0 A0 n0 c0 t0 B0 m0 d0 (mkP X' D') (mkQ X' D')) → Hid (PF v s1 A1 n1 c1 t1 B1 m1 d1 (mkP Y' D') (mkQ Y' D')) → Hid (PF v s2 A2 n2 c2 t2 B2 m2 d2 (mkP X D) (mkQ X D)) → Hid (PF v s3 A3 n3 c3 t3 B3 m3 d3 (mkP Y D) (mkQ Y D)) → Hid (PF v s6 A6 n6 c6 t6 B6 m6 d6 mx mq) → Hid (PF v s7 A7 n7 c7 t7 B7 m7 d7 my mv) → F 3 (Array.setIfInBounds (Array.setIfInBounds (Array.setIfInBounds (Array.setIfInBounds (Array.setIfInBounds (Array.setIfInBounds L0 1 true) 3 true) 4 true) 5 true) 6 true) 7 true) (Act.put (Act.put (Act.put (Act.put (Act.put (Act.put a0 (some 36) (.agg #[.bool s0, .slice A0 n0 c0, .bool t0, .slice B0 m0 d0, .bool s1, .slice A1 n1 c1, .bool t1, .slice B1 m1 d1])) (some 38) (.agg #[.bool s2, .slice A2 n2 c2, .bool t2, .slice B2 m2 d2, .bool s3, .slice A3 n3 c3, .bool t3, .slice B3 m3 d3])) (some 39) (.tuple #[.agg #[.bool s6, .slice A6 n6 c6, .bool t6, .slice B6 m6 d6, .bool s7, .slice A7 n7 c7, .bool t7, .slice B7 m7 d7], .int .i64 0])) (some 34) (.tuple #[.agg #[.bool s6, .slice A6 n6 c6, .bool t6, .slice B6 m6 d6, .bool s7, .slice A7 n7 c7, .bool t7, .slice B7 m7 d7], .int .i64 0])) (some 40) (.agg #[.bool s6, .slice A6 n6 c6, .bool t6, .slice B6 m6 d6, .bool s7, .slice A7 n7 c7, .bool t7, .slice B7 m7 d7])) (some 41) (.int .i64 0)) v := by
        intro s0 A0 n0 c0 t0 B0 m0 d0 s1 A1 n1 c1 t1 B1 m1 d1 s2 A2 n2 c2 t2 B2 m2 d2 s3 A3 n3 c3 t3 B3 m3 d3 s6 A6 n6 c6 t6 B6 m6 d6 s7 A7 n7 c7 t7 B7 m7 d7 v HX_j F0_j F1_j F2_j F3_j F6_j F7_j
        subst hF ha0 hL0
        simp only [Act.put, List.setIfInBounds_toArray, List.set_cons_zero, List.set_cons_succ] at J1_3_4_8 ⊢
        have hHeld := HS.out _ HX_j.out
        refine wpAnyH_ready (rs := [8]) (by as_aux_lemma => kernel_rfl) (by simp) ?_
        refine AllReadyH.cons rfl (fun K hK => ?_) AllReadyH.nil
        go_simp
        have HB_2 := Lib.hid ((Below.refl v.heap.size v).alloc (Nat.le_refl _) (.cells #[.bool false, .slice none 0 0, .bool false, .slice none 0 0, .bool false, .slice none 0 0, .bool false, .slice none 0 0] 33))
        have HP_z_2 := Lib.hid (P8.lit v 33 (.bool false) (.slice none 0 0) (.bool false) (.slice none 0 0) (.bool false) (.slice none 0 0) (.bool false) (.slice none 0 0))
        obtain ⟨v2, hV⟩ : ∃ z, World.alloc v (.cells #[.bool false, .slice none 0 0, .bool false, .slice none 0 0, .bool false, .slice none 0 0, .bool false, .slice none 0 0] 33) = z := ⟨_, rfl⟩
        obtain ⟨gz, hg⟩ : ∃ z, v.heap.size = z := ⟨_, rfl⟩
        rw [hV] at HB_2 HP_z_2  ⊢
        rw [hg] at HP_z_2  ⊢
        have HG_z := Lib.hid (show W3.heap.size ≤ gz by rw [← hg]; exact HX_j.out.size)
        have HX_2 := Lib.hid (bt HX_j.out HB_2.out)
        have F0_2 := Lib.hid ((F0_j.out).new HB_2.out)
        have F1_2 := Lib.hid ((F1_j.out).new HB_2.out)
        have F2_2 := Lib.hid ((F2_j.out).new HB_2.out)
        have F3_2 := Lib.hid ((F3_j.out).new HB_2.out)
        have F6_2 := Lib.hid ((F6_j.out).new HB_2.out)
        have F7_2 := Lib.hid ((F7_j.out).new HB_2.out)
        refine hK.out _ _ (HS.out _ HX_2.out) (fun hHeld2 => ?_)
        clear hHeld
        have hHeld := hHeld2
        clear hHeld2 hK K hV hg HB_2 HX_j F0_j F1_j F2_j F3_j F6_j F7_j
        try simp only [Act.put, List.getElem_toArray, List.getElem_cons_zero, List.getElem_cons_succ, List.setIfInBounds_toArray, List.set_cons_zero, List.set_cons_succ]
        exact wpAnyH_cast (by as_aux_lemma => kernel_rfl) (J1_3_4_8 s0 A0 n0 c0 t0 B0 m0 d0 s1 A1 n1 c1 t1 B1 m1 d1 s2 A2 n2 c2 t2 B2 m2 d2 s3 A3 n3 c3 t3 B3 m3 d3 s6 A6 n6 c6 t6 B6 m6 d6 s7 A7 n7 c7 t7 B7 m7 d7 gz v2 HX_2 F0_2 F1_2 F2_2 F3_2 F6_2 F7_2 HP_z_2 (Lib.hid (HG_z.out)))
      have J1_3_8 : ∀ (s0 : Bool) (A0 : Option Addr) (n0 : Nat) (c0 : Nat) (t0 : Bool) (B0 : Option Addr) (m0 : Nat) (d0 : Nat) (s1 : Bool) (A1 : Option Addr) (n1 : Nat) (c1 : Nat) (t1 : Bool) (B1 : Option Addr) (m1 : Nat) (d1 : Nat) (s2 : Bool) (A2 : Option Addr) (n2 : Nat) (c2 : Nat) (t2 : Bool) (B2 : Option Addr) (m2 : Nat) (d2 : Nat) (s3 : Bool) (A3 : Option Addr) (n3 : Nat) (c3 : Nat) (t3 : Bool) (B3 : Option Addr) (m3 : Nat) (d3 : Nat) (gz : Nat) (v : World), Hid (Below W3.heap.size W3 v) → Hid (PF v s0 A0 n0 c0 t0 B0 m0 d0 (mkP X' D') (mkQ X' D')) → Hid (PF v s1 A1 n1 c1 t1 B1 m1 d1 (mkP Y' D') (mkQ Y' D')) → Hid (PF v s2 A2 n2 c2 t2 B2 m2 d2 (mkP X D) (mkQ X D)) → Hid (PF v s3 A3 n3 c3 t3 B3 m3 d3 (mkP Y D) (mkQ Y D)) → Hid (P8 33 v gz (.bool false) (.slice none 0 0) (.bool false) (.slice none 0 0) (.bool false) (.slice none 0 0) (.bool false) (.slice none 0 0)) → Hid (W3.heap.size ≤ gz) → F 6 (Array.setIfInBounds (Array.setIfInBounds (Array.setIfInBounds L0 1 true) 3 true) 8 true) (Act.put (Act.put (Act.put a0 (some 36) (.agg #[.bool s0, .slice A0 n0 c0, .bool t0, .slice B0 m0 d0, .bool s1, .slice A1 n1 c1, .bool t1, .slice B1 m1 d1])) (some 38) (.agg #[.bool s2, .slice A2 n2 c2, .bool t2, .slice B2 m2 d2, .bool s3, .slice A3 n3 c3, .bool t3, .slice B3 m3 d3])) (some 9) (.pointer (some ⟨gz, 0, none⟩))) v := by
        intro s0 A0 n0 c0 t0 B0 m0 d0 s1 A1 n1 c1 t1 B1 m1 d1 s2 A2 n2 c2 t2 B2 m2 d2 s3 A3 n3 c3 t3 B3 m3 d3 gz v HX_j F0_j F1_j F2_j F3_j HP_z_j HG_z_j
        subst hF ha0 hL0
        simp only [Act.put, List.setIfInBounds_toArray, List.set_cons_zero, List.set_cons_succ] at J1_3_4_8 ⊢
        have hHeld := HS.out _ HX_j.out
        refine wpAnyH_ready (rs := [4]) (by as_aux_lemma => kernel_rfl) (by simp) ?_
        refine AllReadyH.cons rfl (fun K hK => ?_) AllReadyH.nil
        go_simp
        go_at_call 21
        refine (pmid_any (mkP X' D') (mkQ X' D') (mkP Y' D') (mkQ Y' D') (mkP X D) (mkQ X D) (mkP Y D) (mkQ Y D) s0 A0 n0 c0 t0 B0 m0 d0 s1 A1 n1 c1 t1 B1 m1 d1 s2 A2 n2 c2 t2 B2 m2 d2 s3 A3 n3 c3 t3 B3 m3 d3 v F0_j.out F1_j.out F2_j.out F3_j.out ⟨⟨(md_lims (sb_md HSB.out)).1, (md_lims (sb_md HSA.out)).1⟩, (md_lims (sb_md HSB.out)).2, (md_lims (sb_md HSA.out)).2⟩).mono ?_
        rw [HME'.out.1, HME'.out.2.1, HME'.out.2.2.1, HME'.out.2.2.2.1, HME'.out.2.2.2.2]
        rintro e v3 ⟨s6, A6, n6, c6, t6, B6, m6, d6, s7, A7, n7, c7, t7, B7, m7, d7, rfl, hr1, hr2, hk⟩
        have F6_3 := Lib.hid (hr1)
        have F7_3 := Lib.hid (hr2)
        have HB_3 := Lib.hid hk
        go_wp2_with fail
        have HX_3 := Lib.hid (bt HX_j.out HB_3.out)
        have F0_3 := Lib.hid ((F0_j.out).new HB_3.out)
        have F1_3 := Lib.hid ((F1_j.out).new HB_3.out)
        have F2_3 := Lib.hid ((F2_j.out).new HB_3.out)
        have F3_3 := Lib.hid ((F3_j.out).new HB_3.out)
        have HP_z_3 := Lib.hid (HP_z_j.out.new HB_3.out)
        refine hK.out _ _ (HS.out _ HX_3.out) (fun hHeld2 => ?_)
        clear hHeld
        have hHeld := hHeld2
        clear hHeld2 hK K hk HB_3 hr1 hr2 HX_j F0_j F1_j F2_j F3_j HP_z_j
        try simp only [Act.put, List.getElem_toArray, List.getElem_cons_zero, List.getElem_cons_succ, List.setIfInBounds_toArray, List.set_cons_zero, List.set_cons_succ]
        refine wpAnyH_take (i := 5) (v := ?_) rfl (by as_aux_lemma => kernel_rfl) (by as_aux_lemma => kernel_rfl) (by as_aux_lemma => kernel_rfl) (fun _ _ _ h => h) (Or.inl ⟨(by as_aux_lemma => kernel_rfl), ?_⟩) (by assumption) ?_
        rotate_left
        · intro w hSw
          (try dsimp only at hSw)
          go_simp
          all_goals (with_reducible rfl)
        try simp only [Act.put, List.getElem_toArray, List.getElem_cons_zero, List.getElem_cons_succ, List.setIfInBounds_toArray, List.set_cons_zero, List.set_cons_succ]
        refine wpAnyH_take (i := 6) (v := ?_) rfl (by as_aux_lemma => kernel_rfl) (by as_aux_lemma => kernel_rfl) (by as_aux_lemma => kernel_rfl) (fun _ _ _ h => h) (Or.inl ⟨(by as_aux_lemma => kernel_rfl), ?_⟩) (by assumption) ?_
        rotate_left
        · intro w hSw
          (try dsimp only at hSw)
          go_simp
          all_goals (with_reducible rfl)
        try simp only [Act.put, List.getElem_toArray, List.getElem_cons_zero, List.getElem_cons_succ, List.setIfInBounds_toArray, List.set_cons_zero, List.set_cons_succ]
        refine wpAnyH_take (i := 7) (v := ?_) rfl (by as_aux_lemma => kernel_rfl) (by as_aux_lemma => kernel_rfl) (by as_aux_lemma => kernel_rfl) (fun _ _ _ h => h) (Or.inl ⟨(by as_aux_lemma => kernel_rfl), ?_⟩) (by assumption) ?_
        rotate_left
        · intro w hSw
          (try dsimp only at hSw)
          go_simp
          all_goals (with_reducible rfl)
        try simp only [Act.put, List.getElem_toArray, List.getElem_cons_zero, List.getElem_cons_succ, List.setIfInBounds_toArray, List.set_cons_zero, List.set_cons_succ]
        exact wpAnyH_cast (by as_aux_lemma => kernel_rfl) (J1_3_4_8 s0 A0 n0 c0 t0 B0 m0 d0 s1 A1 n1 c1 t1 B1 m1 d1 s2 A2 n2 c2 t2 B2 m2 d2 s3 A3 n3 c3 t3 B3 m3 d3 s6 A6 n6 c6 t6 B6 m6 d6 s7 A7 n7 c7 t7 B7 m7 d7 gz v3 HX_3 F0_3 F1_3 F2_3 F3_3 F6_3 F7_3 HP_z_3 (Lib.hid (HG_z_j.out)))
      have J1_3 : ∀ (s0 : Bool) (A0 : Option Addr) (n0 : Nat) (c0 : Nat) (t0 : Bool) (B0 : Option Addr) (m0 : Nat) (d0 : Nat) (s1 : Bool) (A1 : Option Addr) (n1 : Nat) (c1 : Nat) (t1 : Bool) (B1 : Option Addr) (m1 : Nat) (d1 : Nat) (s2 : Bool) (A2 : Option Addr) (n2 : Nat) (c2 : Nat) (t2 : Bool) (B2 : Option Addr) (m2 : Nat) (d2 : Nat) (s3 : Bool) (A3 : Option Addr) (n3 : Nat) (c3 : Nat) (t3 : Bool) (B3 : Option Addr) (m3 : Nat) (d3 : Nat) (v : World), Hid (Below W3.heap.size W3 v) → Hid (PF v s0 A0 n0 c0 t0 B0 m0 d0 (mkP X' D') (mkQ X' D')) → Hid (PF v s1 A1 n1 c1 t1 B1 m1 d1 (mkP Y' D') (mkQ Y' D')) → Hid (PF v s2 A2 n2 c2 t2 B2 m2 d2 (mkP X D) (mkQ X D)) → Hid (PF v s3 A3 n3 c3 t3 B3 m3 d3 (mkP Y D) (mkQ Y D)) → F 7 (Array.setIfInBounds (Array.setIfInBounds L0 1 true) 3 true) (Act.put (Act.put a0 (some 36) (.agg #[.bool s0, .slice A0 n0 c0, .bool t0, .slice B0 m0 d0, .bool s1, .slice A1 n1 c1, .bool t1, .slice B1 m1 d1])) (some 38) (.agg #[.bool s2, .slice A2 n2 c2, .bool t2, .slice B2 m2 d2, .bool s3, .slice A3 n3 c3, .bool t3, .slice B3 m3 d3])) v := by
        intro s0 A0 n0 c0 t0 B0 m0 d0 s1 A1 n1 c1 t1 B1 m1 d1 s2 A2 n2 c2 t2 B2 m2 d2 s3 A3 n3 c3 t3 B3 m3 d3 v HX_j F0_j F1_j F2_j F3_j
        subst hF ha0 hL0
        simp only [Act.put, List.setIfInBounds_toArray, List.set_cons_zero, List.set_cons_succ] at J1_3_4 J1_3_8 ⊢
        have hHeld := HS.out _ HX_j.out
        refine wpAnyH_ready (rs := [4, 8]) (by as_aux_lemma => kernel_rfl) (by simp) ?_
        refine AllReadyH.cons rfl (fun K hK => ?_) ?_
        go_simp
        go_at_call 21
        refine (pmid_any (mkP X' D') (mkQ X' D') (mkP Y' D') (mkQ Y' D') (mkP X D) (mkQ X D) (mkP Y D) (mkQ Y D) s0 A0 n0 c0 t0 B0 m0 d0 s1 A1 n1 c1 t1 B1 m1 d1 s2 A2 n2 c2 t2 B2 m2 d2 s3 A3 n3 c3 t3 B3 m3 d3 v F0_j.out F1_j.out F2_j.out F3_j.out ⟨⟨(md_lims (sb_md HSB.out)).1, (md_lims (sb_md HSA.out)).1⟩, (md_lims (sb_md HSB.out)).2, (md_lims (sb_md HSA.out)).2⟩).mono ?_
        rw [HME'.out.1, HME'.out.2.1, HME'.out.2.2.1, HME'.out.2.2.2.1, HME'.out.2.2.2.2]
        rintro e v4 ⟨s6, A6, n6, c6, t6, B6, m6, d6, s7, A7, n7, c7, t7, B7, m7, d7, rfl, hr1, hr2, hk⟩
        have F6_4 := Lib.hid (hr1)
        have F7_4 := Lib.hid (hr2)
        have HB_4 := Lib.hid hk
        go_wp2_with fail
        have HX_4 := Lib.hid (bt HX_j.out HB_4.out)
        have F0_4 := Lib.hid ((F0_j.out).new HB_4.out)
        have F1_4 := Lib.hid ((F1_j.out).new HB_4.out)
        have F2_4 := Lib.hid ((F2_j.out).new HB_4.out)
        have F3_4 := Lib.hid ((F3_j.out).new HB_4.out)
        refine hK.out _ _ (HS.out _ HX_4.out) (fun hHeld2 => ?_)
        clear hHeld
        have hHeld := hHeld2
        clear hHeld2 hK K hk HB_4 hr1 hr2 HX_j F0_j F1_j F2_j F3_j
        try simp only [Act.put, List.getElem_toArray, List.getElem_cons_zero, List.getElem_cons_succ, List.setIfInBounds_toArray, List.set_cons_zero, List.set_cons_succ]
        refine wpAnyH_take (i := 5) (v := ?_) rfl (by as_aux_lemma => kernel_rfl) (by as_aux_lemma => kernel_rfl) (by as_aux_lemma => kernel_rfl) (fun _ _ _ h => h) (Or.inl ⟨(by as_aux_lemma => kernel_rfl), ?_⟩) (by assumption) ?_
        rotate_left
        · intro w hSw
          (try dsimp only at hSw)
          go_simp
          all_goals (with_reducible rfl)
        try simp only [Act.put, List.getElem_toArray, List.getElem_cons_zero, List.getElem_cons_succ, List.setIfInBounds_toArray, List.set_cons_zero, List.set_cons_succ]
        refine wpAnyH_take (i := 6) (v := ?_) rfl (by as_aux_lemma => kernel_rfl) (by as_aux_lemma => kernel_rfl) (by as_aux_lemma => kernel_rfl) (fun _ _ _ h => h) (Or.inl ⟨(by as_aux_lemma => kernel_rfl), ?_⟩) (by assumption) ?_
        rotate_left
        · intro w hSw
          (try dsimp only at hSw)
          go_simp
          all_goals (with_reducible rfl)
        try simp only [Act.put, List.getElem_toArray, List.getElem_cons_zero, List.getElem_cons_succ, List.setIfInBounds_toArray, List.set_cons_zero, List.set_cons_succ]
        refine wpAnyH_take (i := 7) (v := ?_) rfl (by as_aux_lemma => kernel_rfl) (by as_aux_lemma => kernel_rfl) (by as_aux_lemma => kernel_rfl) (fun _ _ _ h => h) (Or.inl ⟨(by as_aux_lemma => kernel_rfl), ?_⟩) (by assumption) ?_
        rotate_left
        · intro w hSw
          (try dsimp only at hSw)
          go_simp
          all_goals (with_reducible rfl)
        try simp only [Act.put, List.getElem_toArray, List.getElem_cons_zero, List.getElem_cons_succ, List.setIfInBounds_toArray, List.set_cons_zero, List.set_cons_succ]
        exact wpAnyH_cast (by as_aux_lemma => kernel_rfl) (J1_3_4 s0 A0 n0 c0 t0 B0 m0 d0 s1 A1 n1 c1 t1 B1 m1 d1 s2 A2 n2 c2 t2 B2 m2 d2 s3 A3 n3 c3 t3 B3 m3 d3 s6 A6 n6 c6 t6 B6 m6 d6 s7 A7 n7 c7 t7 B7 m7 d7 v4 HX_4 F0_4 F1_4 F2_4 F3_4 F6_4 F7_4)
        refine AllReadyH.cons rfl (fun K hK => ?_) AllReadyH.nil
        go_simp
        have HB_5 := Lib.hid ((Below.refl v.heap.size v).alloc (Nat.le_refl _) (.cells #[.bool false, .slice none 0 0, .bool false, .slice none 0 0, .bool false, .slice none 0 0, .bool false, .slice none 0 0] 33))
        have HP_z_5 := Lib.hid (P8.lit v 33 (.bool false) (.slice none 0 0) (.bool false) (.slice none 0 0) (.bool false) (.slice none 0 0) (.bool false) (.slice none 0 0))
        obtain ⟨v5, hV⟩ : ∃ z, World.alloc v (.cells #[.bool false, .slice none 0 0, .bool false, .slice none 0 0, .bool false, .slice none 0 0, .bool false, .slice none 0 0] 33) = z := ⟨_, rfl⟩
        obtain ⟨gz, hg⟩ : ∃ z, v.heap.size = z := ⟨_, rfl⟩
        rw [hV] at HB_5 HP_z_5  ⊢
        rw [hg] at HP_z_5  ⊢
        have HG_z := Lib.hid (show W3.heap.size ≤ gz by rw [← hg]; exact HX_j.out.size)
        have HX_5 := Lib.hid (bt HX_j.out HB_5.out)
        have F0_5 := Lib.hid ((F0_j.out).new HB_5.out)
        have F1_5 := Lib.hid ((F1_j.out).new HB_5.out)
        have F2_5 := Lib.hid ((F2_j.out).new HB_5.out)
        have F3_5 := Lib.hid ((F3_j.out).new HB_5.out)
        refine hK.out _ _ (HS.out _ HX_5.out) (fun hHeld2 => ?_)
        clear hHeld
        have hHeld := hHeld2
        clear hHeld2 hK K hV hg HB_5 HX_j F0_j F1_j F2_j F3_j
        try simp only [Act.put, List.getElem_toArray, List.getElem_cons_zero, List.getElem_cons_succ, List.setIfInBounds_toArray, List.set_cons_zero, List.set_cons_succ]
        exact wpAnyH_cast (by as_aux_lemma => kernel_rfl) (J1_3_8 s0 A0 n0 c0 t0 B0 m0 d0 s1 A1 n1 c1 t1 B1 m1 d1 s2 A2 n2 c2 t2 B2 m2 d2 s3 A3 n3 c3 t3 B3 m3 d3 gz v5 HX_5 F0_5 F1_5 F2_5 F3_5 HP_z_5 (Lib.hid (HG_z.out)))
      have J1_8 : ∀ (s0 : Bool) (A0 : Option Addr) (n0 : Nat) (c0 : Nat) (t0 : Bool) (B0 : Option Addr) (m0 : Nat) (d0 : Nat) (s1 : Bool) (A1 : Option Addr) (n1 : Nat) (c1 : Nat) (t1 : Bool) (B1 : Option Addr) (m1 : Nat) (d1 : Nat) (gz : Nat) (v : World), Hid (Below W3.heap.size W3 v) → Hid (PF v s0 A0 n0 c0 t0 B0 m0 d0 (mkP X' D') (mkQ X' D')) → Hid (PF v s1 A1 n1 c1 t1 B1 m1 d1 (mkP Y' D') (mkQ Y' D')) → Hid (P8 33 v gz (.bool false) (.slice none 0 0) (.bool false) (.slice none 0 0) (.bool false) (.slice none 0 0) (.bool false) (.slice none 0 0)) → Hid (W3.heap.size ≤ gz) → F 7 (Array.setIfInBounds (Array.setIfInBounds L0 1 true) 8 true) (Act.put (Act.put a0 (some 36) (.agg #[.bool s0, .slice A0 n0 c0, .bool t0, .slice B0 m0 d0, .bool s1, .slice A1 n1 c1, .bool t1, .slice B1 m1 d1])) (some 9) (.pointer (some ⟨gz, 0, none⟩))) v := by
        intro s0 A0 n0 c0 t0 B0 m0 d0 s1 A1 n1 c1 t1 B1 m1 d1 gz v HX_j F0_j F1_j HP_z_j HG_z_j
        subst hF ha0 hL0
        simp only [Act.put, List.setIfInBounds_toArray, List.set_cons_zero, List.set_cons_succ] at J1_3_8 ⊢
        have hHeld := HS.out _ HX_j.out
        refine wpAnyH_ready (rs := [3]) (by as_aux_lemma => kernel_rfl) (by simp) ?_
        refine AllReadyH.cons rfl (fun K hK => ?_) AllReadyH.nil
        go_simp
        go_at_call 10
        refine (real_any X Y D v (md_wf (sb_md HSA.out)).1 (md_wf (sb_md HSA.out)).2.1 (md_wf (sb_md HSA.out)).2.2).mono ?_
        rintro e v6 ⟨s2, A2, n2, c2, t2, B2, m2, d2, s3, A3, n3, c3, t3, B3, m3, d3, rfl, hr1, hr2, hk⟩
        have F2_6 := Lib.hid (hr1)
        have F3_6 := Lib.hid (hr2)
        have HB_6 := Lib.hid hk
        go_wp2_with fail
        have HX_6 := Lib.hid (bt HX_j.out HB_6.out)
        have F0_6 := Lib.hid ((F0_j.out).new HB_6.out)
        have F1_6 := Lib.hid ((F1_j.out).new HB_6.out)
        have HP_z_6 := Lib.hid (HP_z_j.out.new HB_6.out)
        refine hK.out _ _ (HS.out _ HX_6.out) (fun hHeld2 => ?_)
        clear hHeld
        have hHeld := hHeld2
        clear hHeld2 hK K hk HB_6 hr1 hr2 HX_j F0_j F1_j HP_z_j
        try simp only [Act.put, List.getElem_toArray, List.getElem_cons_zero, List.getElem_cons_succ, List.setIfInBounds_toArray, List.set_cons_zero, List.set_cons_succ]
        exact wpAnyH_cast (by as_aux_lemma => kernel_rfl) (J1_3_8 s0 A0 n0 c0 t0 B0 m0 d0 s1 A1 n1 c1 t1 B1 m1 d1 s2 A2 n2 c2 t2 B2 m2 d2 s3 A3 n3 c3 t3 B3 m3 d3 gz v6 HX_6 F0_6 F1_6 F2_6 F3_6 HP_z_6 (Lib.hid (HG_z_j.out)))
      have J1 : ∀ (s0 : Bool) (A0 : Option Addr) (n0 : Nat) (c0 : Nat) (t0 : Bool) (B0 : Option Addr) (m0 : Nat) (d0 : Nat) (s1 : Bool) (A1 : Option Addr) (n1 : Nat) (c1 : Nat) (t1 : Bool) (B1 : Option Addr) (m1 : Nat) (d1 : Nat) (v : World), Hid (Below W3.heap.size W3 v) → Hid (PF v s0 A0 n0 c0 t0 B0 m0 d0 (mkP X' D') (mkQ X' D')) → Hid (PF v s1 A1 n1 c1 t1 B1 m1 d1 (mkP Y' D') (mkQ Y' D')) → F 8 (Array.setIfInBounds L0 1 true) (Act.put a0 (some 36) (.agg #[.bool s0, .slice A0 n0 c0, .bool t0, .slice B0 m0 d0, .bool s1, .slice A1 n1 c1, .bool t1, .slice B1 m1 d1])) v := by
        intro s0 A0 n0 c0 t0 B0 m0 d0 s1 A1 n1 c1 t1 B1 m1 d1 v HX_j F0_j F1_j
        subst hF ha0 hL0
        simp only [Act.put, List.setIfInBounds_toArray, List.set_cons_zero, List.set_cons_succ] at J1_3 J1_8 ⊢
        have hHeld := HS.out _ HX_j.out
        refine wpAnyH_ready (rs := [3, 8]) (by as_aux_lemma => kernel_rfl) (by simp) ?_
        refine AllReadyH.cons rfl (fun K hK => ?_) ?_
        go_simp
        go_at_call 10
        refine (real_any X Y D v (md_wf (sb_md HSA.out)).1 (md_wf (sb_md HSA.out)).2.1 (md_wf (sb_md HSA.out)).2.2).mono ?_
        rintro e v7 ⟨s2, A2, n2, c2, t2, B2, m2, d2, s3, A3, n3, c3, t3, B3, m3, d3, rfl, hr1, hr2, hk⟩
        have F2_7 := Lib.hid (hr1)
        have F3_7 := Lib.hid (hr2)
        have HB_7 := Lib.hid hk
        go_wp2_with fail
        have HX_7 := Lib.hid (bt HX_j.out HB_7.out)
        have F0_7 := Lib.hid ((F0_j.out).new HB_7.out)
        have F1_7 := Lib.hid ((F1_j.out).new HB_7.out)
        refine hK.out _ _ (HS.out _ HX_7.out) (fun hHeld2 => ?_)
        clear hHeld
        have hHeld := hHeld2
        clear hHeld2 hK K hk HB_7 hr1 hr2 HX_j F0_j F1_j
        try simp only [Act.put, List.getElem_toArray, List.getElem_cons_zero, List.getElem_cons_succ, List.setIfInBounds_toArray, List.set_cons_zero, List.set_cons_succ]
        exact wpAnyH_cast (by as_aux_lemma => kernel_rfl) (J1_3 s0 A0 n0 c0 t0 B0 m0 d0 s1 A1 n1 c1 t1 B1 m1 d1 s2 A2 n2 c2 t2 B2 m2 d2 s3 A3 n3 c3 t3 B3 m3 d3 v7 HX_7 F0_7 F1_7 F2_7 F3_7)
        refine AllReadyH.cons rfl (fun K hK => ?_) AllReadyH.nil
        go_simp
        have HB_8 := Lib.hid ((Below.refl v.heap.size v).alloc (Nat.le_refl _) (.cells #[.bool false, .slice none 0 0, .bool false, .slice none 0 0, .bool false, .slice none 0 0, .bool false, .slice none 0 0] 33))
        have HP_z_8 := Lib.hid (P8.lit v 33 (.bool false) (.slice none 0 0) (.bool false) (.slice none 0 0) (.bool false) (.slice none 0 0) (.bool false) (.slice none 0 0))
        obtain ⟨v8, hV⟩ : ∃ z, World.alloc v (.cells #[.bool false, .slice none 0 0, .bool false, .slice none 0 0, .bool false, .slice none 0 0, .bool false, .slice none 0 0] 33) = z := ⟨_, rfl⟩
        obtain ⟨gz, hg⟩ : ∃ z, v.heap.size = z := ⟨_, rfl⟩
        rw [hV] at HB_8 HP_z_8  ⊢
        rw [hg] at HP_z_8  ⊢
        have HG_z := Lib.hid (show W3.heap.size ≤ gz by rw [← hg]; exact HX_j.out.size)
        have HX_8 := Lib.hid (bt HX_j.out HB_8.out)
        have F0_8 := Lib.hid ((F0_j.out).new HB_8.out)
        have F1_8 := Lib.hid ((F1_j.out).new HB_8.out)
        refine hK.out _ _ (HS.out _ HX_8.out) (fun hHeld2 => ?_)
        clear hHeld
        have hHeld := hHeld2
        clear hHeld2 hK K hV hg HB_8 HX_j F0_j F1_j
        try simp only [Act.put, List.getElem_toArray, List.getElem_cons_zero, List.getElem_cons_succ, List.setIfInBounds_toArray, List.set_cons_zero, List.set_cons_succ]
        exact wpAnyH_cast (by as_aux_lemma => kernel_rfl) (J1_8 s0 A0 n0 c0 t0 B0 m0 d0 s1 A1 n1 c1 t1 B1 m1 d1 gz v8 HX_8 F0_8 F1_8 HP_z_8 (Lib.hid (HG_z.out)))
      have J8 : ∀ (gz : Nat) (v : World), Hid (Below W3.heap.size W3 v) → Hid (P8 33 v gz (.bool false) (.slice none 0 0) (.bool false) (.slice none 0 0) (.bool false) (.slice none 0 0) (.bool false) (.slice none 0 0)) → Hid (W3.heap.size ≤ gz) → F 8 (Array.setIfInBounds L0 8 true) (Act.put a0 (some 9) (.pointer (some ⟨gz, 0, none⟩))) v := by
        intro gz v HX_j HP_z_j HG_z_j
        subst hF ha0 hL0
        simp only [Act.put, List.setIfInBounds_toArray, List.set_cons_zero, List.set_cons_succ] at J1_8 ⊢
        have hHeld := HS.out _ HX_j.out
        refine wpAnyH_ready (rs := [1]) (by as_aux_lemma => kernel_rfl) (by simp) ?_
        refine AllReadyH.cons rfl (fun K hK => ?_) AllReadyH.nil
        go_simp
        go_at_call 10
        refine (real_any X' Y' D' v (md_wf (sb_md HSB.out)).1 (md_wf (sb_md HSB.out)).2.1 (md_wf (sb_md HSB.out)).2.2).mono ?_
        rintro e v9 ⟨s0, A0, n0, c0, t0, B0, m0, d0, s1, A1, n1, c1, t1, B1, m1, d1, rfl, hr1, hr2, hk⟩
        have F0_9 := Lib.hid (hr1)
        have F1_9 := Lib.hid (hr2)
        have HB_9 := Lib.hid hk
        go_wp2_with fail
        have HX_9 := Lib.hid (bt HX_j.out HB_9.out)
        have HP_z_9 := Lib.hid (HP_z_j.out.new HB_9.out)
        refine hK.out _ _ (HS.out _ HX_9.out) (fun hHeld2 => ?_)
        clear hHeld
        have hHeld := hHeld2
        clear hHeld2 hK K hk HB_9 hr1 hr2 HX_j HP_z_j
        try simp only [Act.put, List.getElem_toArray, List.getElem_cons_zero, List.getElem_cons_succ, List.setIfInBounds_toArray, List.set_cons_zero, List.set_cons_succ]
        exact wpAnyH_cast (by as_aux_lemma => kernel_rfl) (J1_8 s0 A0 n0 c0 t0 B0 m0 d0 s1 A1 n1 c1 t1 B1 m1 d1 gz v9 HX_9 F0_9 F1_9 HP_z_9 (Lib.hid (HG_z_j.out)))
      subst hF ha0 hL0
      simp only [Act.put, List.setIfInBounds_toArray, List.set_cons_zero, List.set_cons_succ] at J1 J8
      refine wpAnyH_ready (rs := [1, 8]) (by as_aux_lemma => kernel_rfl) (by simp) ?_
      refine AllReadyH.cons rfl (fun K hK => ?_) ?_
      go_simp
      go_at_call 10
      refine (real_any X' Y' D' v0 (md_wf (sb_md HSB.out)).1 (md_wf (sb_md HSB.out)).2.1 (md_wf (sb_md HSB.out)).2.2).mono ?_
      rintro e v10 ⟨s0, A0, n0, c0, t0, B0, m0, d0, s1, A1, n1, c1, t1, B1, m1, d1, rfl, hr1, hr2, hk⟩
      have F0_10 := Lib.hid (hr1)
      have F1_10 := Lib.hid (hr2)
      have HB_10 := Lib.hid hk
      go_wp2_with fail
      have HX_10 := Lib.hid (bt HD0.out HB_10.out)
      refine hK.out _ _ (HS.out _ HX_10.out) (fun hHeld2 => ?_)
      clear hHeld
      have hHeld := hHeld2
      clear hHeld2 hK K hk HB_10 hr1 hr2 HD0
      try simp only [Act.put, List.getElem_toArray, List.getElem_cons_zero, List.getElem_cons_succ, List.setIfInBounds_toArray, List.set_cons_zero, List.set_cons_succ]
      exact wpAnyH_cast (by as_aux_lemma => kernel_rfl) (J1 s0 A0 n0 c0 t0 B0 m0 d0 s1 A1 n1 c1 t1 B1 m1 d1 v10 HX_10 F0_10 F1_10)
      refine AllReadyH.cons rfl (fun K hK => ?_) AllReadyH.nil
      go_simp
      have HB_11 := Lib.hid ((Below.refl v0.heap.size v0).alloc (Nat.le_refl _) (.cells #[.bool false, .slice none 0 0, .bool false, .slice none 0 0, .bool false, .slice none 0 0, .bool false, .slice none 0 0] 33))
      have HP_z_11 := Lib.hid (P8.lit v0 33 (.bool false) (.slice none 0 0) (.bool false) (.slice none 0 0) (.bool false) (.slice none 0 0) (.bool false) (.slice none 0 0))
      obtain ⟨v11, hV⟩ : ∃ z, World.alloc v0 (.cells #[.bool false, .slice none 0 0, .bool false, .slice none 0 0, .bool false, .slice none 0 0, .bool false, .slice none 0 0] 33) = z := ⟨_, rfl⟩
      obtain ⟨gz, hg⟩ : ∃ z, v0.heap.size = z := ⟨_, rfl⟩
      rw [hV] at HB_11 HP_z_11  ⊢
      rw [hg] at HP_z_11  ⊢
      have HG_z := Lib.hid (show W3.heap.size ≤ gz by rw [← hg]; exact HD0.out.size)
      have HX_11 := Lib.hid (bt HD0.out HB_11.out)
      refine hK.out _ _ (HS.out _ HX_11.out) (fun hHeld2 => ?_)
      clear hHeld
      have hHeld := hHeld2
      clear hHeld2 hK K hV hg HB_11 HD0
      try simp only [Act.put, List.getElem_toArray, List.getElem_cons_zero, List.getElem_cons_succ, List.setIfInBounds_toArray, List.set_cons_zero, List.set_cons_succ]
      exact wpAnyH_cast (by as_aux_lemma => kernel_rfl) (J8 gz v11 HX_11 HP_z_11 (Lib.hid (HG_z.out)))
    case rest =>
      obtain ⟨gn, s6, A6, n6, c6, t6, B6, m6, d6, s7, A7, n7, c7, t7, B7, m7, d7, rfl, rfl, hq, h6, h7, hbx⟩ := hcut
      obtain ⟨W4, rfl⟩ := nm_world hbx
      have HQn := Lib.hid hq
      have H6 := Lib.hid h6
      have H7 := Lib.hid h7
      have HQm4 := Lib.hid (HQm.out.new hbx)
      have H44 := Lib.hid (H4.out.new hbx)
      have H54 := Lib.hid (H5.out.new hbx)
      have HA4 := Lib.hid (HA_W3.out.new hbx)
      have HB4 := Lib.hid (HB_W3.out.new hbx)
      have HW4 := Lib.hid (bt HW3.out hbx)
      have HLM := Lib.hid (md_lims (mp_md HMP.out))
      rw [HM.out.1, HM.out.2.1, HM.out.2.2.1, HM.out.2.2.2] at HLM
      clear hq h6 h7 hbx HA_W3 HB_W3 HW3 HXX HME' HQm H4 H5
      go_wp2_with fail
      have HS : Hid (∀ w', Below W4.heap.size W4 w' → (fun w' : World => w'.cell? ⟨gA, 0, none⟩ = some (.int .i64 X) ∧ w'.cell? ⟨gA, 1, none⟩ = some (.int .i64 Y) ∧ w'.cell? ⟨gA, 2, none⟩ = some (.int .i64 D) ∧ w'.cell? ⟨gB, 0, none⟩ = some (.int .i64 X') ∧ w'.cell? ⟨gB, 1, none⟩ = some (.int .i64 Y') ∧ w'.cell? ⟨gB, 2, none⟩ = some (.int .i64 D') ∧ w'.cell? ⟨gm, 0, none⟩ = some (.bool s4) ∧ w'.cell? ⟨gm, 1, none⟩ = some (.slice A4 n4 c4) ∧ w'.cell? ⟨gm, 2, none⟩ = some (.bool t4) ∧ w'.cell? ⟨gm, 3, none⟩ = some (.slice B4 m4 d4) ∧ w'.cell? ⟨gm, 4, none⟩ = some (.bool s5) ∧ w'.cell? ⟨gm, 5, none⟩ = some (.slice A5 n5 c5) ∧ w'.cell? ⟨gm, 6, none⟩ = some (.bool t5) ∧ w'.cell? ⟨gm, 7, none⟩ = some (.slice B5 m5 d5) ∧ w'.cell? ⟨gn, 0, none⟩ = some (.bool s6) ∧ w'.cell? ⟨gn, 1, none⟩ = some (.slice A6 n6 c6) ∧ w'.cell? ⟨gn, 2, none⟩ = some (.bool t6) ∧ w'.cell? ⟨gn, 3, none⟩ = some (.slice B6 m6 d6) ∧ w'.cell? ⟨gn, 4, none⟩ = some (.bool s7) ∧ w'.cell? ⟨gn, 5, none⟩ = some (.slice A7 n7 c7) ∧ w'.cell? ⟨gn, 6, none⟩ = some (.bool t7) ∧ w'.cell? ⟨gn, 7, none⟩ = some (.slice B7 m7 d7) ∧ Below W4.heap.size W4 w') w') := Lib.hid (fun w' hb => ⟨(HA4.out.new hb).cells.1, (HA4.out.new hb).cells.2.1, (HA4.out.new hb).cells.2.2, (HB4.out.new hb).cells.1, (HB4.out.new hb).cells.2.1, (HB4.out.new hb).cells.2.2, (HQm4.out.new hb).cells.1.1, (HQm4.out.new hb).cells.1.2.1, (HQm4.out.new hb).cells.1.2.2.1, (HQm4.out.new hb).cells.1.2.2.2, (HQm4.out.new hb).cells.2.1, (HQm4.out.new hb).cells.2.2.1, (HQm4.out.new hb).cells.2.2.2.1, (HQm4.out.new hb).cells.2.2.2.2, (HQn.out.new hb).cells.1.1, (HQn.out.new hb).cells.1.2.1, (HQn.out.new hb).cells.1.2.2.1, (HQn.out.new hb).cells.1.2.2.2, (HQn.out.new hb).cells.2.1, (HQn.out.new hb).cells.2.2.1, (HQn.out.new hb).cells.2.2.2.1, (HQn.out.new hb).cells.2.2.2.2, hb⟩)
      have HXX := Lib.hid (Below.refl W4.heap.size W4)
      obtain ⟨v0, hv0⟩ : ∃ z, World.drew W4 = z := ⟨_, rfl⟩
      have HD0 := Lib.hid (show Below W4.heap.size W4 v0 by rw [← hv0]; exact (Below.refl _ _).drew)
      have HX_0 := Lib.hid (bt HXX.out HD0.out)
      have F4_0 := Lib.hid ((H44.out).new HD0.out)
      have F5_0 := Lib.hid ((H54.out).new HD0.out)
      have F6_0 := Lib.hid ((H6.out).new HD0.out)
      have F7_0 := Lib.hid ((H7.out).new HD0.out)
      refine wp_region_held_drew (S := (fun w' : World => w'.cell? ⟨gA, 0, none⟩ = some (.int .i64 X) ∧ w'.cell? ⟨gA, 1, none⟩ = some (.int .i64 Y) ∧ w'.cell? ⟨gA, 2, none⟩ = some (.int .i64 D) ∧ w'.cell? ⟨gB, 0, none⟩ = some (.int .i64 X') ∧ w'.cell? ⟨gB, 1, none⟩ = some (.int .i64 Y') ∧ w'.cell? ⟨gB, 2, none⟩ = some (.int .i64 D') ∧ w'.cell? ⟨gm, 0, none⟩ = some (.bool s4) ∧ w'.cell? ⟨gm, 1, none⟩ = some (.slice A4 n4 c4) ∧ w'.cell? ⟨gm, 2, none⟩ = some (.bool t4) ∧ w'.cell? ⟨gm, 3, none⟩ = some (.slice B4 m4 d4) ∧ w'.cell? ⟨gm, 4, none⟩ = some (.bool s5) ∧ w'.cell? ⟨gm, 5, none⟩ = some (.slice A5 n5 c5) ∧ w'.cell? ⟨gm, 6, none⟩ = some (.bool t5) ∧ w'.cell? ⟨gm, 7, none⟩ = some (.slice B5 m5 d5) ∧ w'.cell? ⟨gn, 0, none⟩ = some (.bool s6) ∧ w'.cell? ⟨gn, 1, none⟩ = some (.slice A6 n6 c6) ∧ w'.cell? ⟨gn, 2, none⟩ = some (.bool t6) ∧ w'.cell? ⟨gn, 3, none⟩ = some (.slice B6 m6 d6) ∧ w'.cell? ⟨gn, 4, none⟩ = some (.bool s7) ∧ w'.cell? ⟨gn, 5, none⟩ = some (.slice A7 n7 c7) ∧ w'.cell? ⟨gn, 6, none⟩ = some (.bool t7) ∧ w'.cell? ⟨gn, 7, none⟩ = some (.slice B7 m7 d7) ∧ Below W4.heap.size W4 w')) (by as_aux_lemma => kernel_rfl) ?_ (fun hHeld => ?_)
      · rw [hv0]
        exact HS.out _ HX_0.out
      rw [hv0] at hHeld ⊢
      clear hv0 HD0
      refine wpAnyH_take (i := 0) (v := ?_) rfl (by as_aux_lemma => kernel_rfl) (by as_aux_lemma => kernel_rfl) (by as_aux_lemma => kernel_rfl) (fun _ _ _ h => h) (Or.inl ⟨(by as_aux_lemma => kernel_rfl), ?_⟩) (by assumption) ?_
      rotate_left
      · intro w hSw
        (try dsimp only at hSw)
        go_simp
        all_goals (with_reducible rfl)
      try simp only [Act.put, List.getElem_toArray, List.getElem_cons_zero, List.setIfInBounds_toArray, List.set_cons_zero, List.set_cons_succ]
      refine wpAnyH_take (i := 1) (v := ?_) rfl (by as_aux_lemma => kernel_rfl) (by as_aux_lemma => kernel_rfl) (by as_aux_lemma => kernel_rfl) (fun _ _ _ h => h) (Or.inl ⟨(by as_aux_lemma => kernel_rfl), ?_⟩) (by assumption) ?_
      rotate_left
      · intro w hSw
        (try dsimp only at hSw)
        go_simp
        all_goals (with_reducible rfl)
      try simp only [Act.put, List.getElem_toArray, List.getElem_cons_zero, List.getElem_cons_succ, List.setIfInBounds_toArray, List.set_cons_zero, List.set_cons_succ]
      refine wpAnyH_take (i := 2) (v := ?_) rfl (by as_aux_lemma => kernel_rfl) (by as_aux_lemma => kernel_rfl) (by as_aux_lemma => kernel_rfl) (fun _ _ _ h => h) (Or.inl ⟨(by as_aux_lemma => kernel_rfl), ?_⟩) (by assumption) ?_
      rotate_left
      · intro w hSw
        (try dsimp only at hSw)
        go_simp
        all_goals (with_reducible rfl)
      try simp only [Act.put, List.getElem_toArray, List.getElem_cons_zero, List.getElem_cons_succ, List.setIfInBounds_toArray, List.set_cons_zero, List.set_cons_succ]
      refine wpAnyH_take (i := 3) (v := ?_) rfl (by as_aux_lemma => kernel_rfl) (by as_aux_lemma => kernel_rfl) (by as_aux_lemma => kernel_rfl) (fun _ _ _ h => h) (Or.inl ⟨(by as_aux_lemma => kernel_rfl), ?_⟩) (by assumption) ?_
      rotate_left
      · intro w hSw
        (try dsimp only at hSw)
        go_simp
        all_goals (with_reducible rfl)
      try simp only [Act.put, List.getElem_toArray, List.getElem_cons_zero, List.getElem_cons_succ, List.setIfInBounds_toArray, List.set_cons_zero, List.set_cons_succ]
      refine wpAnyH_take (i := 4) (v := ?_) rfl (by as_aux_lemma => kernel_rfl) (by as_aux_lemma => kernel_rfl) (by as_aux_lemma => kernel_rfl) (fun _ _ _ h => h) (Or.inl ⟨(by as_aux_lemma => kernel_rfl), ?_⟩) (by assumption) ?_
      rotate_left
      · intro w hSw
        (try dsimp only at hSw)
        go_simp
        all_goals (with_reducible rfl)
      try simp only [Act.put, List.getElem_toArray, List.getElem_cons_zero, List.getElem_cons_succ, List.setIfInBounds_toArray, List.set_cons_zero, List.set_cons_succ]
      refine wpAnyH_take (i := 5) (v := ?_) rfl (by as_aux_lemma => kernel_rfl) (by as_aux_lemma => kernel_rfl) (by as_aux_lemma => kernel_rfl) (fun _ _ _ h => h) (Or.inl ⟨(by as_aux_lemma => kernel_rfl), ?_⟩) (by assumption) ?_
      rotate_left
      · intro w hSw
        (try dsimp only at hSw)
        go_simp
        all_goals (with_reducible rfl)
      try simp only [Act.put, List.getElem_toArray, List.getElem_cons_zero, List.getElem_cons_succ, List.setIfInBounds_toArray, List.set_cons_zero, List.set_cons_succ]
      refine wpAnyH_take (i := 6) (v := ?_) rfl (by as_aux_lemma => kernel_rfl) (by as_aux_lemma => kernel_rfl) (by as_aux_lemma => kernel_rfl) (fun _ _ _ h => h) (Or.inl ⟨(by as_aux_lemma => kernel_rfl), ?_⟩) (by assumption) ?_
      rotate_left
      · intro w hSw
        (try dsimp only at hSw)
        go_simp
        all_goals (with_reducible rfl)
      try simp only [Act.put, List.getElem_toArray, List.getElem_cons_zero, List.getElem_cons_succ, List.setIfInBounds_toArray, List.set_cons_zero, List.set_cons_succ]
      refine wpAnyH_take (i := 7) (v := ?_) rfl (by as_aux_lemma => kernel_rfl) (by as_aux_lemma => kernel_rfl) (by as_aux_lemma => kernel_rfl) (fun _ _ _ h => h) (Or.inl ⟨(by as_aux_lemma => kernel_rfl), ?_⟩) (by assumption) ?_
      rotate_left
      · intro w hSw
        (try dsimp only at hSw)
        go_simp
        all_goals (with_reducible rfl)
      try simp only [Act.put, List.getElem_toArray, List.getElem_cons_zero, List.getElem_cons_succ, List.setIfInBounds_toArray, List.set_cons_zero, List.set_cons_succ]
      refine wpAnyH_take (i := 8) (v := ?_) rfl (by as_aux_lemma => kernel_rfl) (by as_aux_lemma => kernel_rfl) (by as_aux_lemma => kernel_rfl) (fun _ _ _ h => h) (Or.inl ⟨(by as_aux_lemma => kernel_rfl), ?_⟩) (by assumption) ?_
      rotate_left
      · intro w hSw
        (try dsimp only at hSw)
        go_simp
        all_goals (with_reducible rfl)
      try simp only [Act.put, List.getElem_toArray, List.getElem_cons_zero, List.getElem_cons_succ, List.setIfInBounds_toArray, List.set_cons_zero, List.set_cons_succ]
      refine wpAnyH_take (i := 9) (v := ?_) rfl (by as_aux_lemma => kernel_rfl) (by as_aux_lemma => kernel_rfl) (by as_aux_lemma => kernel_rfl) (fun _ _ _ h => h) (Or.inl ⟨(by as_aux_lemma => kernel_rfl), ?_⟩) (by assumption) ?_
      rotate_left
      · intro w hSw
        (try dsimp only at hSw)
        go_simp
        all_goals (with_reducible rfl)
      try simp only [Act.put, List.getElem_toArray, List.getElem_cons_zero, List.getElem_cons_succ, List.setIfInBounds_toArray, List.set_cons_zero, List.set_cons_succ]
      refine wpAnyH_ready (rs := [10]) (by as_aux_lemma => kernel_rfl) (by simp) ?_
      refine AllReadyH.cons rfl (fun K hK => ?_) AllReadyH.nil
      go_simp
      go_at_call 23
      refine (rmid_any X Y D X' Y' D' v0 HSA.out HSB.out).mono ?_
      rw [HE.out.1, HE.out.2.1, HE.out.2.2]
      rintro e v1 ⟨A, B, C', rfl, hmk, hc, hk⟩
      have HMD := Lib.hid (md_of hmk hc (mp_md HMP.out))
      have HMK := Lib.hid (mkR_mk hmk hc)
      rw [HM.out.1, HM.out.2.1, HM.out.2.2.1, HM.out.2.2.2] at HMK
      clear hmk hc
      have HB_1 := Lib.hid hk
      go_wp2_with fail
      have HX_1 := Lib.hid (bt HX_0.out HB_1.out)
      have F4_1 := Lib.hid ((F4_0.out).new HB_1.out)
      have F5_1 := Lib.hid ((F5_0.out).new HB_1.out)
      have F6_1 := Lib.hid ((F6_0.out).new HB_1.out)
      have F7_1 := Lib.hid ((F7_0.out).new HB_1.out)
      refine hK.out _ _ (HS.out _ HX_1.out) (fun hHeld2 => ?_)
      clear hHeld
      have hHeld := hHeld2
      clear hHeld2 hK K hk HB_1 HX_0 F4_0 F5_0 F6_0 F7_0
      try simp only [Act.put, List.getElem_toArray, List.getElem_cons_zero, List.getElem_cons_succ, List.setIfInBounds_toArray, List.set_cons_zero, List.set_cons_succ]
      refine wpAnyH_ready (rs := [11]) (by as_aux_lemma => kernel_rfl) (by simp) ?_
      refine AllReadyH.cons rfl (fun K hK => ?_) AllReadyH.nil
      go_simp
      go_at_call 22
      refine (same_any A B C' s4 A4 n4 c4 t4 B4 m4 d4 s5 A5 n5 c5 t5 B5 m5 d5 v1 (by rw [← HMK.out.1.1, ← HMK.out.1.2]; exact F4_1.out) (by rw [← HMK.out.2.1, ← HMK.out.2.2]; exact F5_1.out) HMD.out).mono ?_
      rintro e v2 ⟨rfl, hk⟩
      have HB_2 := Lib.hid hk
      go_wp2_with fail
      have HX_2 := Lib.hid (bt HX_1.out HB_2.out)
      have F4_2 := Lib.hid ((F4_1.out).new HB_2.out)
      have F5_2 := Lib.hid ((F5_1.out).new HB_2.out)
      have F6_2 := Lib.hid ((F6_1.out).new HB_2.out)
      have F7_2 := Lib.hid ((F7_1.out).new HB_2.out)
      refine hK.out _ _ (HS.out _ HX_2.out) (fun hHeld2 => ?_)
      clear hHeld
      have hHeld := hHeld2
      clear hHeld2 hK K hk HB_2 HX_1 F4_1 F5_1 F6_1 F7_1
      try simp only [Act.put, List.getElem_toArray, List.getElem_cons_zero, List.getElem_cons_succ, List.setIfInBounds_toArray, List.set_cons_zero, List.set_cons_succ]
      refine wpAnyH_take (i := 12) (v := ?_) rfl (by as_aux_lemma => kernel_rfl) (by as_aux_lemma => kernel_rfl) (by as_aux_lemma => kernel_rfl) (fun _ _ _ h => h) (Or.inl ⟨(by as_aux_lemma => kernel_rfl), ?_⟩) (by assumption) ?_
      rotate_left
      · intro w hSw
        (try dsimp only at hSw)
        go_simp
        all_goals (with_reducible rfl)
      try simp only [Act.put, List.getElem_toArray, List.getElem_cons_zero, List.getElem_cons_succ, List.setIfInBounds_toArray, List.set_cons_zero, List.set_cons_succ]
      refine wpAnyH_take (i := 13) (v := ?_) rfl (by as_aux_lemma => kernel_rfl) (by as_aux_lemma => kernel_rfl) (by as_aux_lemma => kernel_rfl) (fun _ _ _ h => h) (Or.inl ⟨(by as_aux_lemma => kernel_rfl), ?_⟩) (by assumption) ?_
      rotate_left
      · intro w hSw
        (try dsimp only at hSw)
        go_simp
        all_goals (with_reducible rfl)
      try simp only [Act.put, List.getElem_toArray, List.getElem_cons_zero, List.getElem_cons_succ, List.setIfInBounds_toArray, List.set_cons_zero, List.set_cons_succ]
      refine wpAnyH_take (i := 14) (v := ?_) rfl (by as_aux_lemma => kernel_rfl) (by as_aux_lemma => kernel_rfl) (by as_aux_lemma => kernel_rfl) (fun _ _ _ h => h) (Or.inl ⟨(by as_aux_lemma => kernel_rfl), ?_⟩) (by assumption) ?_
      rotate_left
      · intro w hSw
        (try dsimp only at hSw)
        go_simp
        all_goals (with_reducible rfl)
      try simp only [Act.put, List.getElem_toArray, List.getElem_cons_zero, List.getElem_cons_succ, List.setIfInBounds_toArray, List.set_cons_zero, List.set_cons_succ]
      refine wpAnyH_take (i := 15) (v := ?_) rfl (by as_aux_lemma => kernel_rfl) (by as_aux_lemma => kernel_rfl) (by as_aux_lemma => kernel_rfl) (fun _ _ _ h => h) (Or.inl ⟨(by as_aux_lemma => kernel_rfl), ?_⟩) (by assumption) ?_
      rotate_left
      · intro w hSw
        (try dsimp only at hSw)
        go_simp
        all_goals (with_reducible rfl)
      try simp only [Act.put, List.getElem_toArray, List.getElem_cons_zero, List.getElem_cons_succ, List.setIfInBounds_toArray, List.set_cons_zero, List.set_cons_succ]
      refine wpAnyH_take (i := 16) (v := ?_) rfl (by as_aux_lemma => kernel_rfl) (by as_aux_lemma => kernel_rfl) (by as_aux_lemma => kernel_rfl) (fun _ _ _ h => h) (Or.inl ⟨(by as_aux_lemma => kernel_rfl), ?_⟩) (by assumption) ?_
      rotate_left
      · intro w hSw
        (try dsimp only at hSw)
        go_simp
        all_goals (with_reducible rfl)
      try simp only [Act.put, List.getElem_toArray, List.getElem_cons_zero, List.getElem_cons_succ, List.setIfInBounds_toArray, List.set_cons_zero, List.set_cons_succ]
      refine wpAnyH_ready (rs := [17]) (by as_aux_lemma => kernel_rfl) (by simp) ?_
      refine AllReadyH.cons rfl (fun K hK => ?_) AllReadyH.nil
      go_simp
      go_at_call 9
      refine (ptcompare_any mx mq my mv mx mq my mv s4 A4 n4 c4 t4 B4 m4 d4 s5 A5 n5 c5 t5 B5 m5 d5 s6 A6 n6 c6 t6 B6 m6 d6 s7 A7 n7 c7 t7 B7 m7 d7 v2 F4_2.out F5_2.out F6_2.out F7_2.out ⟨HLM.out.1, HLM.out.2, HLM.out.1, HLM.out.2⟩).mono ?_
      rw [pc_eq]
      rintro e v3 ⟨rfl, hk⟩
      have HB_3 := Lib.hid hk
      go_wp2_with fail
      have HX_3 := Lib.hid (bt HX_2.out HB_3.out)
      have F4_3 := Lib.hid ((F4_2.out).new HB_3.out)
      have F5_3 := Lib.hid ((F5_2.out).new HB_3.out)
      have F6_3 := Lib.hid ((F6_2.out).new HB_3.out)
      have F7_3 := Lib.hid ((F7_2.out).new HB_3.out)
      refine hK.out _ _ (HS.out _ HX_3.out) (fun hHeld2 => ?_)
      clear hHeld
      have hHeld := hHeld2
      clear hHeld2 hK K hk HB_3 HX_2 F4_2 F5_2 F6_2 F7_2
      try simp only [Act.put, List.getElem_toArray, List.getElem_cons_zero, List.getElem_cons_succ, List.setIfInBounds_toArray, List.set_cons_zero, List.set_cons_succ]
      refine wpAnyH_take (i := 18) (v := ?_) rfl (by as_aux_lemma => kernel_rfl) (by as_aux_lemma => kernel_rfl) (by as_aux_lemma => kernel_rfl) (fun _ _ _ h => h) (Or.inl ⟨(by as_aux_lemma => kernel_rfl), ?_⟩) (by assumption) ?_
      rotate_left
      · intro w hSw
        (try dsimp only at hSw)
        go_simp
        all_goals (with_reducible rfl)
      try simp only [Act.put, List.getElem_toArray, List.getElem_cons_zero, List.getElem_cons_succ, List.setIfInBounds_toArray, List.set_cons_zero, List.set_cons_succ]
      refine wpAnyH_take (i := 19) (v := ?_) rfl (by as_aux_lemma => kernel_rfl) (by as_aux_lemma => kernel_rfl) (by as_aux_lemma => kernel_rfl) (fun _ _ _ h => h) (Or.inl ⟨(by as_aux_lemma => kernel_rfl), ?_⟩) (by assumption) ?_
      rotate_left
      · intro w hSw
        (try dsimp only at hSw)
        go_simp
        all_goals (with_reducible rfl)
      try simp only [Act.put, List.getElem_toArray, List.getElem_cons_zero, List.getElem_cons_succ, List.setIfInBounds_toArray, List.set_cons_zero, List.set_cons_succ]
      refine wpAnyH_done (by as_aux_lemma => kernel_rfl) ?_ _
      clear hHeld
      have HX7 := Lib.hid HX_3.out
      obtain ⟨W7, hW7⟩ : ∃ z, z = v3 := ⟨_, rfl⟩
      subst hW7
      have HPC := Lib.hid (show pcV (mkP X D) (mkQ X D) (mkP Y D) (mkQ Y D) mx mq my mv = C ∧ pcV mx mq my mv (mkP X' D') (mkQ X' D') (mkP Y' D') (mkQ Y' D') = C ∧ pcV (mkP X D) (mkQ X D) (mkP Y D) (mkQ Y D) (mkP X' D') (mkQ X' D') (mkP Y' D') (mkQ Y' D') = C by
        rw [← HM.out.1, ← HM.out.2.1, ← HM.out.2.2.1, ← HM.out.2.2.2]
        exact ⟨by rw [pc_rc HSA.out.1.1 HMP.out.1.1, HRL.out], by rw [pc_rc HMP.out.1.1 HSB.out.1.1, HRR.out], by rw [pc_rc HSA.out.1.1 HSB.out.1.1, HC.out]⟩)
      have HS7 : Hid (∀ w', Below W4.heap.size W4 w' → (fun w' : World => w'.cell? ⟨gA, 0, none⟩ = some (.int .i64 X) ∧ w'.cell? ⟨gA, 1, none⟩ = some (.int .i64 Y) ∧ w'.cell? ⟨gA, 2, none⟩ = some (.int .i64 D) ∧ w'.cell? ⟨gB, 0, none⟩ = some (.int .i64 X') ∧ w'.cell? ⟨gB, 1, none⟩ = some (.int .i64 Y') ∧ w'.cell? ⟨gB, 2, none⟩ = some (.int .i64 D') ∧ w'.cell? ⟨gm, 0, none⟩ = some (.bool s4) ∧ w'.cell? ⟨gm, 1, none⟩ = some (.slice A4 n4 c4) ∧ w'.cell? ⟨gm, 2, none⟩ = some (.bool t4) ∧ w'.cell? ⟨gm, 3, none⟩ = some (.slice B4 m4 d4) ∧ w'.cell? ⟨gm, 4, none⟩ = some (.bool s5) ∧ w'.cell? ⟨gm, 5, none⟩ = some (.slice A5 n5 c5) ∧ w'.cell? ⟨gm, 6, none⟩ = some (.bool t5) ∧ w'.cell? ⟨gm, 7, none⟩ = some (.slice B5 m5 d5) ∧ Below W4.heap.size W4 w') w') := Lib.hid (fun w' hb => ⟨(HA4.out.new hb).cells.1, (HA4.out.new hb).cells.2.1, (HA4.out.new hb).cells.2.2, (HB4.out.new hb).cells.1, (HB4.out.new hb).cells.2.1, (HB4.out.new hb).cells.2.2, (HQm4.out.new hb).cells.1.1, (HQm4.out.new hb).cells.1.2.1, (HQm4.out.new hb).cells.1.2.2.1, (HQm4.out.new hb).cells.1.2.2.2, (HQm4.out.new hb).cells.2.1, (HQm4.out.new hb).cells.2.2.1, (HQm4.out.new hb).cells.2.2.2.1, (HQm4.out.new hb).cells.2.2.2.2, hb⟩)
      clear HS HQn H6 H7 HRL HRR HC HMK HMD
      go_wp2_with fail
      obtain ⟨v0, hv0⟩ : ∃ z, World.drew W7 = z := ⟨_, rfl⟩
      have HD0 := Lib.hid (show Below W7.heap.size W7 v0 by rw [← hv0]; exact (Below.refl _ _).drew)
      have HX_0 := Lib.hid (bt HX7.out HD0.out)
      have F4_0 := Lib.hid ((F4_3.out).new HD0.out)
      have F5_0 := Lib.hid ((F5_3.out).new HD0.out)
      refine wp_region_held_drew (S := (fun w' : World => w'.cell? ⟨gA, 0, none⟩ = some (.int .i64 X) ∧ w'.cell? ⟨gA, 1, none⟩ = some (.int .i64 Y) ∧ w'.cell? ⟨gA, 2, none⟩ = some (.int .i64 D) ∧ w'.cell? ⟨gB, 0, none⟩ = some (.int .i64 X') ∧ w'.cell? ⟨gB, 1, none⟩ = some (.int .i64 Y') ∧ w'.cell? ⟨gB, 2, none⟩ = some (.int .i64 D') ∧ w'.cell? ⟨gm, 0, none⟩ = some (.bool s4) ∧ w'.cell? ⟨gm, 1, none⟩ = some (.slice A4 n4 c4) ∧ w'.cell? ⟨gm, 2, none⟩ = some (.bool t4) ∧ w'.cell? ⟨gm, 3, none⟩ = some (.slice B4 m4 d4) ∧ w'.cell? ⟨gm, 4, none⟩ = some (.bool s5) ∧ w'.cell? ⟨gm, 5, none⟩ = some (.slice A5 n5 c5) ∧ w'.cell? ⟨gm, 6, none⟩ = some (.bool t5) ∧ w'.cell? ⟨gm, 7, none⟩ = some (.slice B5 m5 d5) ∧ Below W4.heap.size W4 w')) (by as_aux_lemma => kernel_rfl) ?_ (fun hHeld => ?_)
      · rw [hv0]
        exact HS7.out _ HX_0.out
      rw [hv0] at hHeld ⊢
      clear hv0 HD0
      refine wpAnyH_take (i := 0) (v := ?_) rfl (by as_aux_lemma => kernel_rfl) (by as_aux_lemma => kernel_rfl) (by as_aux_lemma => kernel_rfl) (fun _ _ _ h => h) (Or.inl ⟨(by as_aux_lemma => kernel_rfl), ?_⟩) (by assumption) ?_
      rotate_left
      · intro w hSw
        (try dsimp only at hSw)
        go_simp
        all_goals (with_reducible rfl)
      try simp only [Act.put, List.getElem_toArray, List.getElem_cons_zero, List.setIfInBounds_toArray, List.set_cons_zero, List.set_cons_succ]
      refine wpAnyH_take (i := 2) (v := ?_) rfl (by as_aux_lemma => kernel_rfl) (by as_aux_lemma => kernel_rfl) (by as_aux_lemma => kernel_rfl) (fun _ _ _ h => h) (Or.inl ⟨(by as_aux_lemma => kernel_rfl), ?_⟩) (by assumption) ?_
      rotate_left
      · intro w hSw
        (try dsimp only at hSw)
        go_simp
        all_goals (with_reducible rfl)
      try simp only [Act.put, List.getElem_toArray, List.getElem_cons_zero, List.getElem_cons_succ, List.setIfInBounds_toArray, List.set_cons_zero, List.set_cons_succ]
      refine wpAnyH_ready (rs := [1]) (by as_aux_lemma => kernel_rfl) (by simp) ?_
      refine AllReadyH.cons rfl (fun K hK => ?_) AllReadyH.nil
      go_simp
      go_at_call 10
      refine (real_any X Y D v0 (md_wf (sb_md HSA.out)).1 (md_wf (sb_md HSA.out)).2.1 (md_wf (sb_md HSA.out)).2.2).mono ?_
      rintro e v1 ⟨s0, A0, n0, c0, t0, B0, m0, d0, s1, A1, n1, c1, t1, B1, m1, d1, rfl, hr1, hr2, hk⟩
      have F0_1 := Lib.hid (hr1)
      have F1_1 := Lib.hid (hr2)
      have HB_1 := Lib.hid hk
      go_wp2_with fail
      have HX_1 := Lib.hid (bt HX_0.out HB_1.out)
      have F4_1 := Lib.hid ((F4_0.out).new HB_1.out)
      have F5_1 := Lib.hid ((F5_0.out).new HB_1.out)
      refine hK.out _ _ (HS7.out _ HX_1.out) (fun hHeld2 => ?_)
      clear hHeld
      have hHeld := hHeld2
      clear hHeld2 hK K hk HB_1 hr1 hr2 HX_0 F4_0 F5_0
      try simp only [Act.put, List.getElem_toArray, List.getElem_cons_zero, List.getElem_cons_succ, List.setIfInBounds_toArray, List.set_cons_zero, List.set_cons_succ]
      refine wpAnyH_ready (rs := [3]) (by as_aux_lemma => kernel_rfl) (by simp) ?_
      refine AllReadyH.cons rfl (fun K hK => ?_) AllReadyH.nil
      go_simp
      go_at_call 9
      refine (ptcompare_any (mkP X D) (mkQ X D) (mkP Y D) (mkQ Y D) mx mq my mv s0 A0 n0 c0 t0 B0 m0 d0 s1 A1 n1 c1 t1 B1 m1 d1 s4 A4 n4 c4 t4 B4 m4 d4 s5 A5 n5 c5 t5 B5 m5 d5 v1 F0_1.out F1_1.out F4_1.out F5_1.out ⟨(md_lims (sb_md HSA.out)).1, (md_lims (sb_md HSA.out)).2, HLM.out.1, HLM.out.2⟩).mono ?_
      rw [HPC.out.1]
      rintro e v2 ⟨rfl, hk⟩
      have HB_2 := Lib.hid hk
      go_wp2_with fail
      have HX_2 := Lib.hid (bt HX_1.out HB_2.out)
      have F4_2 := Lib.hid ((F4_1.out).new HB_2.out)
      have F5_2 := Lib.hid ((F5_1.out).new HB_2.out)
      have F0_2 := Lib.hid ((F0_1.out).new HB_2.out)
      have F1_2 := Lib.hid ((F1_1.out).new HB_2.out)
      refine hK.out _ _ (HS7.out _ HX_2.out) (fun hHeld2 => ?_)
      clear hHeld
      have hHeld := hHeld2
      clear hHeld2 hK K hk HB_2 HX_1 F4_1 F5_1 F0_1 F1_1
      try simp only [Act.put, List.getElem_toArray, List.getElem_cons_zero, List.getElem_cons_succ, List.setIfInBounds_toArray, List.set_cons_zero, List.set_cons_succ]
      refine wpAnyH_take (i := 4) (v := ?_) rfl (by as_aux_lemma => kernel_rfl) (by as_aux_lemma => kernel_rfl) (by as_aux_lemma => kernel_rfl) (fun _ _ _ h => h) (Or.inl ⟨(by as_aux_lemma => kernel_rfl), ?_⟩) (by assumption) ?_
      rotate_left
      · intro w hSw
        (try dsimp only at hSw)
        go_simp
        all_goals (with_reducible rfl)
      try simp only [Act.put, List.getElem_toArray, List.getElem_cons_zero, List.getElem_cons_succ, List.setIfInBounds_toArray, List.set_cons_zero, List.set_cons_succ]
      refine wpAnyH_done (by as_aux_lemma => kernel_rfl) ?_ _
      clear hHeld
      have HX8 := Lib.hid HX_2.out
      obtain ⟨W8, hW8⟩ : ∃ z, z = v2 := ⟨_, rfl⟩
      subst hW8
      go_wp2_with fail
      obtain ⟨v0, hv0⟩ : ∃ z, World.drew W8 = z := ⟨_, rfl⟩
      have HD0 := Lib.hid (show Below W8.heap.size W8 v0 by rw [← hv0]; exact (Below.refl _ _).drew)
      have HX_0 := Lib.hid (bt HX8.out HD0.out)
      have F4_0 := Lib.hid ((F4_2.out).new HD0.out)
      have F5_0 := Lib.hid ((F5_2.out).new HD0.out)
      refine wp_region_held_drew (S := (fun w' : World => w'.cell? ⟨gA, 0, none⟩ = some (.int .i64 X) ∧ w'.cell? ⟨gA, 1, none⟩ = some (.int .i64 Y) ∧ w'.cell? ⟨gA, 2, none⟩ = some (.int .i64 D) ∧ w'.cell? ⟨gB, 0, none⟩ = some (.int .i64 X') ∧ w'.cell? ⟨gB, 1, none⟩ = some (.int .i64 Y') ∧ w'.cell? ⟨gB, 2, none⟩ = some (.int .i64 D') ∧ w'.cell? ⟨gm, 0, none⟩ = some (.bool s4) ∧ w'.cell? ⟨gm, 1, none⟩ = some (.slice A4 n4 c4) ∧ w'.cell? ⟨gm, 2, none⟩ = some (.bool t4) ∧ w'.cell? ⟨gm, 3, none⟩ = some (.slice B4 m4 d4) ∧ w'.cell? ⟨gm, 4, none⟩ = some (.bool s5) ∧ w'.cell? ⟨gm, 5, none⟩ = some (.slice A5 n5 c5) ∧ w'.cell? ⟨gm, 6, none⟩ = some (.bool t5) ∧ w'.cell? ⟨gm, 7, none⟩ = some (.slice B5 m5 d5) ∧ Below W4.heap.size W4 w')) (by as_aux_lemma => kernel_rfl) ?_ (fun hHeld => ?_)
      · rw [hv0]
        exact HS7.out _ HX_0.out
      rw [hv0] at hHeld ⊢
      clear hv0 HD0
      refine wpAnyH_take (i := 0) (v := ?_) rfl (by as_aux_lemma => kernel_rfl) (by as_aux_lemma => kernel_rfl) (by as_aux_lemma => kernel_rfl) (fun _ _ _ h => h) (Or.inl ⟨(by as_aux_lemma => kernel_rfl), ?_⟩) (by assumption) ?_
      rotate_left
      · intro w hSw
        (try dsimp only at hSw)
        go_simp
        all_goals (with_reducible rfl)
      try simp only [Act.put, List.getElem_toArray, List.getElem_cons_zero, List.setIfInBounds_toArray, List.set_cons_zero, List.set_cons_succ]
      refine wpAnyH_take (i := 1) (v := ?_) rfl (by as_aux_lemma => kernel_rfl) (by as_aux_lemma => kernel_rfl) (by as_aux_lemma => kernel_rfl) (fun _ _ _ h => h) (Or.inl ⟨(by as_aux_lemma => kernel_rfl), ?_⟩) (by assumption) ?_
      rotate_left
      · intro w hSw
        (try dsimp only at hSw)
        go_simp
        all_goals (with_reducible rfl)
      try simp only [Act.put, List.getElem_toArray, List.getElem_cons_zero, List.getElem_cons_succ, List.setIfInBounds_toArray, List.set_cons_zero, List.set_cons_succ]
      refine wpAnyH_take (i := 2) (v := ?_) rfl (by as_aux_lemma => kernel_rfl) (by as_aux_lemma => kernel_rfl) (by as_aux_lemma => kernel_rfl) (fun _ _ _ h => h) (Or.inl ⟨(by as_aux_lemma => kernel_rfl), ?_⟩) (by assumption) ?_
      rotate_left
      · intro w hSw
        (try dsimp only at hSw)
        go_simp
        all_goals (with_reducible rfl)
      try simp only [Act.put, List.getElem_toArray, List.getElem_cons_zero, List.getElem_cons_succ, List.setIfInBounds_toArray, List.set_cons_zero, List.set_cons_succ]
      refine wpAnyH_ready (rs := [3]) (by as_aux_lemma => kernel_rfl) (by simp) ?_
      refine AllReadyH.cons rfl (fun K hK => ?_) AllReadyH.nil
      go_simp
      go_at_call 10
      refine (real_any X' Y' D' v0 (md_wf (sb_md HSB.out)).1 (md_wf (sb_md HSB.out)).2.1 (md_wf (sb_md HSB.out)).2.2).mono ?_
      rintro e v1 ⟨s0, A0, n0, c0, t0, B0, m0, d0, s1, A1, n1, c1, t1, B1, m1, d1, rfl, hr1, hr2, hk⟩
      have F0_1 := Lib.hid (hr1)
      have F1_1 := Lib.hid (hr2)
      have HB_1 := Lib.hid hk
      go_wp2_with fail
      have HX_1 := Lib.hid (bt HX_0.out HB_1.out)
      have F4_1 := Lib.hid ((F4_0.out).new HB_1.out)
      have F5_1 := Lib.hid ((F5_0.out).new HB_1.out)
      refine hK.out _ _ (HS7.out _ HX_1.out) (fun hHeld2 => ?_)
      clear hHeld
      have hHeld := hHeld2
      clear hHeld2 hK K hk HB_1 hr1 hr2 HX_0 F4_0 F5_0
      try simp only [Act.put, List.getElem_toArray, List.getElem_cons_zero, List.getElem_cons_succ, List.setIfInBounds_toArray, List.set_cons_zero, List.set_cons_succ]
      refine wpAnyH_ready (rs := [4]) (by as_aux_lemma => kernel_rfl) (by simp) ?_
      refine AllReadyH.cons rfl (fun K hK => ?_) AllReadyH.nil
      go_simp
      go_at_call 9
      refine (ptcompare_any mx mq my mv (mkP X' D') (mkQ X' D') (mkP Y' D') (mkQ Y' D') s4 A4 n4 c4 t4 B4 m4 d4 s5 A5 n5 c5 t5 B5 m5 d5 s0 A0 n0 c0 t0 B0 m0 d0 s1 A1 n1 c1 t1 B1 m1 d1 v1 F4_1.out F5_1.out F0_1.out F1_1.out ⟨HLM.out.1, HLM.out.2, (md_lims (sb_md HSB.out)).1, (md_lims (sb_md HSB.out)).2⟩).mono ?_
      rw [HPC.out.2.1]
      rintro e v2 ⟨rfl, hk⟩
      have HB_2 := Lib.hid hk
      go_wp2_with fail
      have HX_2 := Lib.hid (bt HX_1.out HB_2.out)
      have F4_2 := Lib.hid ((F4_1.out).new HB_2.out)
      have F5_2 := Lib.hid ((F5_1.out).new HB_2.out)
      have F0_2 := Lib.hid ((F0_1.out).new HB_2.out)
      have F1_2 := Lib.hid ((F1_1.out).new HB_2.out)
      refine hK.out _ _ (HS7.out _ HX_2.out) (fun hHeld2 => ?_)
      clear hHeld
      have hHeld := hHeld2
      clear hHeld2 hK K hk HB_2 HX_1 F4_1 F5_1 F0_1 F1_1
      try simp only [Act.put, List.getElem_toArray, List.getElem_cons_zero, List.getElem_cons_succ, List.setIfInBounds_toArray, List.set_cons_zero, List.set_cons_succ]
      refine wpAnyH_take (i := 5) (v := ?_) rfl (by as_aux_lemma => kernel_rfl) (by as_aux_lemma => kernel_rfl) (by as_aux_lemma => kernel_rfl) (fun _ _ _ h => h) (Or.inl ⟨(by as_aux_lemma => kernel_rfl), ?_⟩) (by assumption) ?_
      rotate_left
      · intro w hSw
        (try dsimp only at hSw)
        go_simp
        all_goals (with_reducible rfl)
      try simp only [Act.put, List.getElem_toArray, List.getElem_cons_zero, List.getElem_cons_succ, List.setIfInBounds_toArray, List.set_cons_zero, List.set_cons_succ]
      refine wpAnyH_take (i := 6) (v := ?_) rfl (by as_aux_lemma => kernel_rfl) (by as_aux_lemma => kernel_rfl) (by as_aux_lemma => kernel_rfl) (fun _ _ _ h => h) (Or.inl ⟨(by as_aux_lemma => kernel_rfl), ?_⟩) (by assumption) ?_
      rotate_left
      · intro w hSw
        (try dsimp only at hSw)
        go_simp
        all_goals (with_reducible rfl)
      try simp only [Act.put, List.getElem_toArray, List.getElem_cons_zero, List.getElem_cons_succ, List.setIfInBounds_toArray, List.set_cons_zero, List.set_cons_succ]
      refine wpAnyH_take (i := 7) (v := ?_) rfl (by as_aux_lemma => kernel_rfl) (by as_aux_lemma => kernel_rfl) (by as_aux_lemma => kernel_rfl) (fun _ _ _ h => h) (Or.inl ⟨(by as_aux_lemma => kernel_rfl), ?_⟩) (by assumption) ?_
      rotate_left
      · intro w hSw
        (try dsimp only at hSw)
        go_simp
        all_goals (with_reducible rfl)
      try simp only [Act.put, List.getElem_toArray, List.getElem_cons_zero, List.getElem_cons_succ, List.setIfInBounds_toArray, List.set_cons_zero, List.set_cons_succ]
      refine wpAnyH_take (i := 8) (v := ?_) rfl (by as_aux_lemma => kernel_rfl) (by as_aux_lemma => kernel_rfl) (by as_aux_lemma => kernel_rfl) (fun _ _ _ h => h) (Or.inl ⟨(by as_aux_lemma => kernel_rfl), ?_⟩) (by assumption) ?_
      rotate_left
      · intro w hSw
        (try dsimp only at hSw)
        go_simp
        all_goals (with_reducible rfl)
      try simp only [Act.put, List.getElem_toArray, List.getElem_cons_zero, List.getElem_cons_succ, List.setIfInBounds_toArray, List.set_cons_zero, List.set_cons_succ]
      refine wpAnyH_take (i := 10) (v := ?_) rfl (by as_aux_lemma => kernel_rfl) (by as_aux_lemma => kernel_rfl) (by as_aux_lemma => kernel_rfl) (fun _ _ _ h => h) (Or.inl ⟨(by as_aux_lemma => kernel_rfl), ?_⟩) (by assumption) ?_
      rotate_left
      · intro w hSw
        (try dsimp only at hSw)
        go_simp
        all_goals (with_reducible rfl)
      try simp only [Act.put, List.getElem_toArray, List.getElem_cons_zero, List.getElem_cons_succ, List.setIfInBounds_toArray, List.set_cons_zero, List.set_cons_succ]
      refine wpAnyH_ready (rs := [9]) (by as_aux_lemma => kernel_rfl) (by simp) ?_
      refine AllReadyH.cons rfl (fun K hK => ?_) AllReadyH.nil
      go_simp
      go_at_call 10
      refine (real_any X Y D v2 (md_wf (sb_md HSA.out)).1 (md_wf (sb_md HSA.out)).2.1 (md_wf (sb_md HSA.out)).2.2).mono ?_
      rintro e v3 ⟨s2, A2, n2, c2, t2, B2, m2, d2, s3, A3, n3, c3, t3, B3, m3, d3, rfl, hr1, hr2, hk⟩
      have F2_3 := Lib.hid (hr1)
      have F3_3 := Lib.hid (hr2)
      have HB_3 := Lib.hid hk
      go_wp2_with fail
      have HX_3 := Lib.hid (bt HX_2.out HB_3.out)
      have F4_3 := Lib.hid ((F4_2.out).new HB_3.out)
      have F5_3 := Lib.hid ((F5_2.out).new HB_3.out)
      have F0_3 := Lib.hid ((F0_2.out).new HB_3.out)
      have F1_3 := Lib.hid ((F1_2.out).new HB_3.out)
      refine hK.out _ _ (HS7.out _ HX_3.out) (fun hHeld2 => ?_)
      clear hHeld
      have hHeld := hHeld2
      clear hHeld2 hK K hk HB_3 hr1 hr2 HX_2 F4_2 F5_2 F0_2 F1_2
      try simp only [Act.put, List.getElem_toArray, List.getElem_cons_zero, List.getElem_cons_succ, List.setIfInBounds_toArray, List.set_cons_zero, List.set_cons_succ]
      refine wpAnyH_ready (rs := [11]) (by as_aux_lemma => kernel_rfl) (by simp) ?_
      refine AllReadyH.cons rfl (fun K hK => ?_) AllReadyH.nil
      go_simp
      go_at_call 10
      refine (real_any X' Y' D' v3 (md_wf (sb_md HSB.out)).1 (md_wf (sb_md HSB.out)).2.1 (md_wf (sb_md HSB.out)).2.2).mono ?_
      rintro e v4 ⟨s8, A8, n8, c8, t8, B8, m8, d8, s9, A9, n9, c9, t9, B9, m9, d9, rfl, hr1, hr2, hk⟩
      have F8_4 := Lib.hid (hr1)
      have F9_4 := Lib.hid (hr2)
      have HB_4 := Lib.hid hk
      go_wp2_with fail
      have HX_4 := Lib.hid (bt HX_3.out HB_4.out)
      have F4_4 := Lib.hid ((F4_3.out).new HB_4.out)
      have F5_4 := Lib.hid ((F5_3.out).new HB_4.out)
      have F0_4 := Lib.hid ((F0_3.out).new HB_4.out)
      have F1_4 := Lib.hid ((F1_3.out).new HB_4.out)
      have F2_4 := Lib.hid ((F2_3.out).new HB_4.out)
      have F3_4 := Lib.hid ((F3_3.out).new HB_4.out)
      refine hK.out _ _ (HS7.out _ HX_4.out) (fun hHeld2 => ?_)
      clear hHeld
      have hHeld := hHeld2
      clear hHeld2 hK K hk HB_4 hr1 hr2 HX_3 F4_3 F5_3 F0_3 F1_3 F2_3 F3_3
      try simp only [Act.put, List.getElem_toArray, List.getElem_cons_zero, List.getElem_cons_succ, List.setIfInBounds_toArray, List.set_cons_zero, List.set_cons_succ]
      refine wpAnyH_ready (rs := [12]) (by as_aux_lemma => kernel_rfl) (by simp) ?_
      refine AllReadyH.cons rfl (fun K hK => ?_) AllReadyH.nil
      go_simp
      go_at_call 9
      refine (ptcompare_any (mkP X D) (mkQ X D) (mkP Y D) (mkQ Y D) (mkP X' D') (mkQ X' D') (mkP Y' D') (mkQ Y' D') s2 A2 n2 c2 t2 B2 m2 d2 s3 A3 n3 c3 t3 B3 m3 d3 s8 A8 n8 c8 t8 B8 m8 d8 s9 A9 n9 c9 t9 B9 m9 d9 v4 F2_4.out F3_4.out F8_4.out F9_4.out ⟨(md_lims (sb_md HSA.out)).1, (md_lims (sb_md HSA.out)).2, (md_lims (sb_md HSB.out)).1, (md_lims (sb_md HSB.out)).2⟩).mono ?_
      rw [HPC.out.2.2]
      rintro e v5 ⟨rfl, hk⟩
      have HB_5 := Lib.hid hk
      go_wp2_with fail
      have HX_5 := Lib.hid (bt HX_4.out HB_5.out)
      have F4_5 := Lib.hid ((F4_4.out).new HB_5.out)
      have F5_5 := Lib.hid ((F5_4.out).new HB_5.out)
      have F0_5 := Lib.hid ((F0_4.out).new HB_5.out)
      have F1_5 := Lib.hid ((F1_4.out).new HB_5.out)
      have F2_5 := Lib.hid ((F2_4.out).new HB_5.out)
      have F3_5 := Lib.hid ((F3_4.out).new HB_5.out)
      have F8_5 := Lib.hid ((F8_4.out).new HB_5.out)
      have F9_5 := Lib.hid ((F9_4.out).new HB_5.out)
      refine hK.out _ _ (HS7.out _ HX_5.out) (fun hHeld2 => ?_)
      clear hHeld
      have hHeld := hHeld2
      clear hHeld2 hK K hk HB_5 HX_4 F4_4 F5_4 F0_4 F1_4 F2_4 F3_4 F8_4 F9_4
      try simp only [Act.put, List.getElem_toArray, List.getElem_cons_zero, List.getElem_cons_succ, List.setIfInBounds_toArray, List.set_cons_zero, List.set_cons_succ]
      refine wpAnyH_take (i := 13) (v := ?_) rfl (by as_aux_lemma => kernel_rfl) (by as_aux_lemma => kernel_rfl) (by as_aux_lemma => kernel_rfl) (fun _ _ _ h => h) (Or.inl ⟨(by as_aux_lemma => kernel_rfl), ?_⟩) (by assumption) ?_
      rotate_left
      · intro w hSw
        (try dsimp only at hSw)
        go_simp
        all_goals (with_reducible rfl)
      try simp only [Act.put, List.getElem_toArray, List.getElem_cons_zero, List.getElem_cons_succ, List.setIfInBounds_toArray, List.set_cons_zero, List.set_cons_succ]
      refine wpAnyH_take (i := 14) (v := ?_) rfl (by as_aux_lemma => kernel_rfl) (by as_aux_lemma => kernel_rfl) (by as_aux_lemma => kernel_rfl) (fun _ _ _ h => h) (Or.inl ⟨(by as_aux_lemma => kernel_rfl), ?_⟩) (by assumption) ?_
      rotate_left
      · intro w hSw
        (try dsimp only at hSw)
        go_simp
        all_goals (with_reducible rfl)
      try simp only [Act.put, List.getElem_toArray, List.getElem_cons_zero, List.getElem_cons_succ, List.setIfInBounds_toArray, List.set_cons_zero, List.set_cons_succ]
      refine wpAnyH_done (by as_aux_lemma => kernel_rfl) ?_ _
      clear hHeld
      have HX9 := Lib.hid HX_5.out
      have G4 := Lib.hid F4_5.out
      have G5 := Lib.hid F5_5.out
      obtain ⟨W9, hW9⟩ : ∃ z, z = v5 := ⟨_, rfl⟩
      subst hW9
      have HQ9 := Lib.hid (HQm4.out.new HX9.out)
      have HW9 := Lib.hid (bt HW4.out HX9.out)
      have HRD := Lib.hid (rd_rr (X := S) (Y := T) HMP.out.1.1)
      rw [HM.out.1, HM.out.2.1, HM.out.2.2.1, HM.out.2.2.2, (rr_mp HMP.out).1, (rr_mp HMP.out).2.1, (rr_mp HMP.out).2.2] at HRD
      have HH1 := Lib.hid (nr_half HMP.out.1.1 HMP.out.1.2 HMP.out.2.1)
      have HH2 := Lib.hid (nr_half HMP.out.1.1 HMP.out.1.2 HMP.out.2.2)
      have hz1 := nr_bound HMP.out.1.1 HMP.out.1.2 HMP.out.2.1
      have hz2 := nr_bound HMP.out.1.1 HMP.out.1.2 HMP.out.2.2
      obtain ⟨r1, hr1⟩ : ∃ z, nrV S N = z := ⟨_, rfl⟩
      obtain ⟨r2, hr2⟩ : ∃ z, nrV T N = z := ⟨_, rfl⟩
      rw [HM.out.1, HM.out.2.1, hr1] at HH1
      rw [HM.out.2.2.1, HM.out.2.2.2, hr2] at HH2
      rw [hr1] at hz1
      rw [hr2] at hz2
      rw [hr1, hr2] at HRD
      have HWF := Lib.hid (show (Lit.int .i64 r1).wf = true ∧ (Lit.int .i64 r2).wf = true from ⟨WalkArith.wf_i64 (by omega), WalkArith.wf_i64 (by omega)⟩)
      clear hr1 hr2 hz1 hz2 HS7 HQm4 H44 H54 HX7 HX8 HPC
      obtain ⟨⟨p0, p1, p2, p3⟩, p4, p5, p6, p7⟩ := HQ9.out.cells
      go_wp2_with fail
      refine (pround_any mx mq my mv s4 A4 n4 c4 t4 B4 m4 d4 s5 A5 n5 c5 t5 B5 m5 d5 W9 G4.out G5.out HLM.out).mono ?_
      rw [HRD.out.1, HRD.out.2.1, HRD.out.2.2]
      rintro e u1 ⟨rfl, hb⟩
      obtain ⟨yw1, hv1⟩ : ∃ z, u1.alloc (.cells #[.int .i64 r1, .int .i64 r2] 44) = z := ⟨_, rfl⟩
      have HN := Lib.hid (show Below W9.heap.size W9 yw1 by rw [← hv1]; exact bt hb ((Below.refl _ _).alloc (Nat.le_refl _) _))
      have HR1 := Lib.hid (show P2 44 yw1 u1.heap.size (.int .i64 r1) (.int .i64 r2) by rw [← hv1]; exact P2.lit _ _ _ _)
      obtain ⟨gr, hgr⟩ : ∃ g, u1.heap.size = g := ⟨_, rfl⟩
      rw [hgr] at HR1
      have HQ10 := Lib.hid (HQ9.out.new HN.out)
      have G4a := Lib.hid (G4.out.new HN.out)
      have G5a := Lib.hid (G5.out.new HN.out)
      have HW10 := Lib.hid (bt HW9.out HN.out)
      clear hb p0 p1 p2 p3 p4 p5 p6 p7 HQ9 G4 G5 HN HW9
      go_wp2_with fail
      clear hv1 hgr
      refine (fof_any 1 2 yw1 (by decide) (by decide)).mono ?_
      rw [show mkP 1 2 = 1 from rfl, show mkQ 1 2 = 2 from rfl, show mkC 2 = 0 from rfl]
      rintro e u2 ⟨s0, A0, n0, c0, t0, B0, m0, d0, rfl, h0, hb⟩
      obtain ⟨yw2, hv2⟩ : ∃ z, u2.alloc (.cells #[.bool s0, .slice A0 n0 c0, .bool t0, .slice B0 m0 d0] 31) = z := ⟨_, rfl⟩
      have HNx := Lib.hid (show Below u2.heap.size u2 yw2 by rw [← hv2]; exact (Below.refl _ _).alloc (Nat.le_refl _) _)
      have HN := Lib.hid (bt hb HNx.out)
      have HQh := Lib.hid (show P4 31 yw2 u2.heap.size (.bool s0) (.slice A0 n0 c0) (.bool t0) (.slice B0 m0 d0) by rw [← hv2]; exact P4.lit _ _ _ _ _ _)
      obtain ⟨gh, hgh⟩ : ∃ g, u2.heap.size = g := ⟨_, rfl⟩
      rw [hgh] at HQh
      have Hh := Lib.hid (h0.new HNx.out)
      have HR2 := Lib.hid (HR1.out.new HN.out)
      have HQ11 := Lib.hid (HQ10.out.new HN.out)
      have G4b := Lib.hid (G4a.out.new HN.out)
      have G5b := Lib.hid (G5a.out.new HN.out)
      have HW11 := Lib.hid (bt HW10.out HN.out)
      clear h0 hb HN HNx HR1 HQ10 G4a G5a HW10
      go_upto_region 12 with fail
      clear hv2 hgh
      have HX12 := Lib.hid (Below.refl yw2.heap.size yw2)
      go_cut [16, 17] (fun tp tc wx => ∃ (q : Nat) (s3 : Bool) (A3 : Option Addr) (n3 c3 : Nat) (t3 : Bool) (B3 : Option Addr) (m3 d3 : Nat), tp = .pointer (some ⟨q, 0, none⟩) ∧ tc = .int .i64 0 ∧ P4 31 wx q (.bool s3) (.slice A3 n3 c3) (.bool t3) (.slice B3 m3 d3) ∧ PF wx s3 A3 n3 c3 t3 B3 m3 d3 (adP r1 1 (-mx) mq) (adQ r1 1 (-mx) mq) ∧ Below yw2.heap.size yw2 wx)
      case first =>
        obtain ⟨v0, hv0⟩ : ∃ z, World.drew yw2 = z := ⟨_, rfl⟩
        have HD0 := Lib.hid (show Below yw2.heap.size yw2 v0 by rw [← hv0]; exact (Below.refl _ _).drew)
        have HX_0 := Lib.hid (bt HX12.out HD0.out)
        have G_0 := Lib.hid ((G4b.out).new HD0.out)
        refine wp_region_held_drew (S := (fun w' : World => w'.cell? ⟨gr, 0, none⟩ = some (.int .i64 r1) ∧ w'.cell? ⟨gr, 1, none⟩ = some (.int .i64 r2) ∧ w'.cell? ⟨gm, 0, none⟩ = some (.bool s4) ∧ w'.cell? ⟨gm, 1, none⟩ = some (.slice A4 n4 c4) ∧ w'.cell? ⟨gm, 2, none⟩ = some (.bool t4) ∧ w'.cell? ⟨gm, 3, none⟩ = some (.slice B4 m4 d4) ∧ w'.cell? ⟨gm, 4, none⟩ = some (.bool s5) ∧ w'.cell? ⟨gm, 5, none⟩ = some (.slice A5 n5 c5) ∧ w'.cell? ⟨gm, 6, none⟩ = some (.bool t5) ∧ w'.cell? ⟨gm, 7, none⟩ = some (.slice B5 m5 d5) ∧ Below yw2.heap.size yw2 w')) (by as_aux_lemma => kernel_rfl) ?_ (fun hHeld => ?_)
        · rw [hv0]
          exact ⟨(HR2.out.new HX_0.out).cells.1, (HR2.out.new HX_0.out).cells.2, (HQ11.out.new HX_0.out).cells.1.1, (HQ11.out.new HX_0.out).cells.1.2.1, (HQ11.out.new HX_0.out).cells.1.2.2.1, (HQ11.out.new HX_0.out).cells.1.2.2.2, (HQ11.out.new HX_0.out).cells.2.1, (HQ11.out.new HX_0.out).cells.2.2.1, (HQ11.out.new HX_0.out).cells.2.2.2.1, (HQ11.out.new HX_0.out).cells.2.2.2.2, HX_0.out⟩
        rw [hv0] at hHeld ⊢
        clear hv0 HD0
        refine wpAnyH_take (i := 0) (v := ?_) rfl (by as_aux_lemma => kernel_rfl) (by as_aux_lemma => kernel_rfl) (by as_aux_lemma => kernel_rfl) (fun _ _ _ h => h) (Or.inl ⟨(by as_aux_lemma => kernel_rfl), ?_⟩) (by assumption) ?_
        rotate_left
        · intro w hSw
          (try dsimp only at hSw)
          go_simp
          all_goals (with_reducible rfl)
        try simp only [Act.put, List.getElem_toArray, List.getElem_cons_zero, List.setIfInBounds_toArray, List.set_cons_zero, List.set_cons_succ]
        refine wpAnyH_take (i := 3) (v := ?_) rfl (by as_aux_lemma => kernel_rfl) (by as_aux_lemma => kernel_rfl) (by as_aux_lemma => kernel_rfl) (fun _ _ _ h => h) (Or.inl ⟨(by as_aux_lemma => kernel_rfl), ?_⟩) (by assumption) ?_
        rotate_left
        · intro w hSw
          (try dsimp only at hSw)
          go_simp
          all_goals (with_reducible rfl)
        try simp only [Act.put, List.getElem_toArray, List.getElem_cons_zero, List.getElem_cons_succ, List.setIfInBounds_toArray, List.set_cons_zero, List.set_cons_succ]
        refine wpAnyH_take (i := 4) (v := ?_) rfl (by as_aux_lemma => kernel_rfl) (by as_aux_lemma => kernel_rfl) (by as_aux_lemma => kernel_rfl) (fun _ _ _ h => h) (Or.inl ⟨(by as_aux_lemma => kernel_rfl), ?_⟩) (by assumption) ?_
        rotate_left
        · intro w hSw
          (try dsimp only at hSw)
          go_simp
          all_goals (with_reducible rfl)
        try simp only [Act.put, List.getElem_toArray, List.getElem_cons_zero, List.getElem_cons_succ, List.setIfInBounds_toArray, List.set_cons_zero, List.set_cons_succ]
        refine wpAnyH_ready (rs := [1, 9]) (by as_aux_lemma => kernel_rfl) (by simp) ?_
        refine AllReadyH.cons rfl (fun K hK => ?_) ?_
        go_simp
        go_at_call 26
        refine (pof_any r1 r2 v0 HWF.out.1 HWF.out.2).mono ?_
        rintro e v1 ⟨s1, A1, n1, c1, t1, B1, m1, d1, s2, A2, n2, c2, t2, B2, m2, d2, rfl, hr1, hr2, hk⟩
        have F1_1 := Lib.hid (hr1)
        have F2_1 := Lib.hid (hr2)
        have HB_1 := Lib.hid hk
        go_wp2_with fail
        have HX_1 := Lib.hid (bt HX_0.out HB_1.out)
        have G_1 := Lib.hid ((G_0.out).new HB_1.out)
        refine hK.out _ _ (⟨(HR2.out.new HX_1.out).cells.1, (HR2.out.new HX_1.out).cells.2, (HQ11.out.new HX_1.out).cells.1.1, (HQ11.out.new HX_1.out).cells.1.2.1, (HQ11.out.new HX_1.out).cells.1.2.2.1, (HQ11.out.new HX_1.out).cells.1.2.2.2, (HQ11.out.new HX_1.out).cells.2.1, (HQ11.out.new HX_1.out).cells.2.2.1, (HQ11.out.new HX_1.out).cells.2.2.2.1, (HQ11.out.new HX_1.out).cells.2.2.2.2, HX_1.out⟩) (fun hHeld2 => ?_)
        clear hHeld
        have hHeld := hHeld2
        clear hHeld2 hK K hk HB_1 hr1 hr2 HX_0 G_0
        try simp only [Act.put, List.getElem_toArray, List.getElem_cons_zero, List.getElem_cons_succ, List.setIfInBounds_toArray, List.set_cons_zero, List.set_cons_succ]
        refine wpAnyH_take (i := 2) (v := ?_) rfl (by as_aux_lemma => kernel_rfl) (by as_aux_lemma => kernel_rfl) (by as_aux_lemma => kernel_rfl) (fun _ _ _ h => h) (Or.inl ⟨(by as_aux_lemma => kernel_rfl), ?_⟩) (by assumption) ?_
        rotate_left
        · intro w hSw
          (try dsimp only at hSw)
          go_simp
          all_goals (with_reducible rfl)
        try simp only [Act.put, List.getElem_toArray, List.getElem_cons_zero, List.getElem_cons_succ, List.setIfInBounds_toArray, List.set_cons_zero, List.set_cons_succ]
        refine wpAnyH_ready (rs := [5, 9]) (by as_aux_lemma => kernel_rfl) (by simp) ?_
        refine AllReadyH.cons rfl (fun K hK => ?_) ?_
        go_simp
        go_at_call 25
        refine (fsub_any r1 1 mx mq s1 t1 s4 t4 A1 B1 A4 B4 n1 c1 m1 d1 n4 c4 m4 d4 v1 F1_1.out G_1.out (by decide) HLM.out.1.1 (i64_lim HWF.out.1) one_lim HLM.out.1.2.1 HLM.out.1.2.2).mono ?_
        rw [HH1.out.1]
        rintro e v2 ⟨s3, A3, n3, c3, t3, B3, m3, d3, rfl, hr1, hk⟩
        have R_2 := Lib.hid (hr1)
        have HB_2 := Lib.hid hk
        go_wp2_with fail
        clear F1_1
        clear F2_1
        clear G_1
        have HX_2 := Lib.hid (bt HX_1.out HB_2.out)
        refine hK.out _ _ (⟨(HR2.out.new HX_2.out).cells.1, (HR2.out.new HX_2.out).cells.2, (HQ11.out.new HX_2.out).cells.1.1, (HQ11.out.new HX_2.out).cells.1.2.1, (HQ11.out.new HX_2.out).cells.1.2.2.1, (HQ11.out.new HX_2.out).cells.1.2.2.2, (HQ11.out.new HX_2.out).cells.2.1, (HQ11.out.new HX_2.out).cells.2.2.1, (HQ11.out.new HX_2.out).cells.2.2.2.1, (HQ11.out.new HX_2.out).cells.2.2.2.2, HX_2.out⟩) (fun hHeld2 => ?_)
        clear hHeld
        have hHeld := hHeld2
        clear hHeld2 hK K hk HB_2 hr1 HX_1
        try simp only [Act.put, List.getElem_toArray, List.getElem_cons_zero, List.getElem_cons_succ, List.setIfInBounds_toArray, List.set_cons_zero, List.set_cons_succ]
        refine wpAnyH_take (i := 6) (v := ?_) rfl (by as_aux_lemma => kernel_rfl) (by as_aux_lemma => kernel_rfl) (by as_aux_lemma => kernel_rfl) (fun _ _ _ h => h) (Or.inl ⟨(by as_aux_lemma => kernel_rfl), ?_⟩) (by assumption) ?_
        rotate_left
        · intro w hSw
          (try dsimp only at hSw)
          go_simp
          all_goals (with_reducible rfl)
        try simp only [Act.put, List.getElem_toArray, List.getElem_cons_zero, List.getElem_cons_succ, List.setIfInBounds_toArray, List.set_cons_zero, List.set_cons_succ]
        refine wpAnyH_take (i := 7) (v := ?_) rfl (by as_aux_lemma => kernel_rfl) (by as_aux_lemma => kernel_rfl) (by as_aux_lemma => kernel_rfl) (fun _ _ _ h => h) (Or.inl ⟨(by as_aux_lemma => kernel_rfl), ?_⟩) (by assumption) ?_
        rotate_left
        · intro w hSw
          (try dsimp only at hSw)
          go_simp
          all_goals (with_reducible rfl)
        try simp only [Act.put, List.getElem_toArray, List.getElem_cons_zero, List.getElem_cons_succ, List.setIfInBounds_toArray, List.set_cons_zero, List.set_cons_succ]
        refine wpAnyH_take (i := 8) (v := ?_) rfl (by as_aux_lemma => kernel_rfl) (by as_aux_lemma => kernel_rfl) (by as_aux_lemma => kernel_rfl) (fun _ _ _ h => h) (Or.inl ⟨(by as_aux_lemma => kernel_rfl), ?_⟩) (by assumption) ?_
        rotate_left
        · intro w hSw
          (try dsimp only at hSw)
          go_simp
          all_goals (with_reducible rfl)
        try simp only [Act.put, List.getElem_toArray, List.getElem_cons_zero, List.getElem_cons_succ, List.setIfInBounds_toArray, List.set_cons_zero, List.set_cons_succ]
        refine wpAnyH_ready (rs := [9]) (by as_aux_lemma => kernel_rfl) (by simp) ?_
        refine AllReadyH.cons rfl (fun K hK => ?_) AllReadyH.nil
        go_simp
        have HB_3 := Lib.hid ((Below.refl v2.heap.size v2).alloc (Nat.le_refl _) (.cells #[.bool false, .slice none 0 0, .bool false, .slice none 0 0] 31))
        have HP_z_3 := Lib.hid (P4.lit v2 31 (.bool false) (.slice none 0 0) (.bool false) (.slice none 0 0))
        obtain ⟨v3, hV⟩ : ∃ z, World.alloc v2 (.cells #[.bool false, .slice none 0 0, .bool false, .slice none 0 0] 31) = z := ⟨_, rfl⟩
        obtain ⟨gz, hg⟩ : ∃ z, v2.heap.size = z := ⟨_, rfl⟩
        rw [hV] at HB_3 HP_z_3  ⊢
        rw [hg] at HP_z_3  ⊢
        have HG_z := Lib.hid (show yw2.heap.size ≤ gz by rw [← hg]; exact HX_2.out.size)
        have HX_3 := Lib.hid (bt HX_2.out HB_3.out)
        have R_3 := Lib.hid ((R_2.out).new HB_3.out)
        refine hK.out _ _ (⟨(HR2.out.new HX_3.out).cells.1, (HR2.out.new HX_3.out).cells.2, (HQ11.out.new HX_3.out).cells.1.1, (HQ11.out.new HX_3.out).cells.1.2.1, (HQ11.out.new HX_3.out).cells.1.2.2.1, (HQ11.out.new HX_3.out).cells.1.2.2.2, (HQ11.out.new HX_3.out).cells.2.1, (HQ11.out.new HX_3.out).cells.2.2.1, (HQ11.out.new HX_3.out).cells.2.2.2.1, (HQ11.out.new HX_3.out).cells.2.2.2.2, HX_3.out⟩) (fun hHeld2 => ?_)
        clear hHeld
        have hHeld := hHeld2
        clear hHeld2 hK K hV hg HB_3 HX_2 R_2
        try simp only [Act.put, List.getElem_toArray, List.getElem_cons_zero, List.getElem_cons_succ, List.setIfInBounds_toArray, List.set_cons_zero, List.set_cons_succ]
        refine wpAnyH_ready (rs := [10]) (by as_aux_lemma => kernel_rfl) (by simp) ?_
        refine AllReadyH.cons rfl (fun K hK => ?_) AllReadyH.nil
        obtain ⟨z0, z1, z2, z3⟩ := HP_z_3.out.cells
        have y0 := HP_z_3.out.frozen 0
        have y1 := HP_z_3.out.frozen 1
        have y2 := HP_z_3.out.frozen 2
        have y3 := HP_z_3.out.frozen 3
        have z9 := HP_z_3.out.lt
        go_simp
        obtain ⟨v4, hV⟩ : ∃ z, World.setCell (World.setCell (World.setCell (World.setCell v3 ⟨gz, 0, none⟩ (.bool s3)) ⟨gz, 1, none⟩ (.slice A3 n3 c3)) ⟨gz, 2, none⟩ (.bool t3)) ⟨gz, 3, none⟩ (.slice B3 m3 d3) = z := ⟨_, rfl⟩
        rw [hV]
        have HX_4 := Lib.hid (show Below yw2.heap.size yw2 v4 by rw [← hV]; exact below_box4 HX_3.out (HG_z.out) _ _ _ _)
        have R_4 := Lib.hid (show PF v4 s3 A3 n3 c3 t3 B3 m3 d3 (adP r1 1 (-mx) mq) (adQ r1 1 (-mx) mq) by rw [← hV]; exact PF.box4 (R_3.out) (HP_z_3.out) (.bool s3) (.slice A3 n3 c3) (.bool t3) (.slice B3 m3 d3))
        have HP_z_4 := Lib.hid (show P4 31 v4 gz (.bool s3) (.slice A3 n3 c3) (.bool t3) (.slice B3 m3 d3) by rw [← hV]; exact HP_z_3.out.all (.bool s3) (.slice A3 n3 c3) (.bool t3) (.slice B3 m3 d3))
        refine hK.out _ _ (⟨(HR2.out.new HX_4.out).cells.1, (HR2.out.new HX_4.out).cells.2, (HQ11.out.new HX_4.out).cells.1.1, (HQ11.out.new HX_4.out).cells.1.2.1, (HQ11.out.new HX_4.out).cells.1.2.2.1, (HQ11.out.new HX_4.out).cells.1.2.2.2, (HQ11.out.new HX_4.out).cells.2.1, (HQ11.out.new HX_4.out).cells.2.2.1, (HQ11.out.new HX_4.out).cells.2.2.2.1, (HQ11.out.new HX_4.out).cells.2.2.2.2, HX_4.out⟩) (fun hHeld2 => ?_)
        clear hHeld
        have hHeld := hHeld2
        clear hHeld2 hK K hV z9 z0 z1 z2 z3 y0 y1 y2 y3 HX_3 R_3 HP_z_3
        try simp only [Act.put, List.getElem_toArray, List.getElem_cons_zero, List.getElem_cons_succ, List.setIfInBounds_toArray, List.set_cons_zero, List.set_cons_succ]
        refine wpAnyH_take (i := 11) (v := ?_) rfl (by as_aux_lemma => kernel_rfl) (by as_aux_lemma => kernel_rfl) (by as_aux_lemma => kernel_rfl) (fun _ _ _ h => h) (Or.inl ⟨(by as_aux_lemma => kernel_rfl), ?_⟩) (by assumption) ?_
        rotate_left
        · intro w hSw
          (try dsimp only at hSw)
          go_simp
          all_goals (with_reducible rfl)
        try simp only [Act.put, List.getElem_toArray, List.getElem_cons_zero, List.getElem_cons_succ, List.setIfInBounds_toArray, List.set_cons_zero, List.set_cons_succ]
        refine wpAnyH_done (by as_aux_lemma => kernel_rfl) ?_ _
        clear hHeld
        go_wp2_with fail
        go_meet
        exact ⟨gz, s3, A3, n3, c3, t3, B3, m3, d3, rfl, rfl, HP_z_4.out, R_4.out, HX_4.out⟩
        refine AllReadyH.cons rfl (fun K hK => ?_) AllReadyH.nil
        go_simp
        have HB_5 := Lib.hid ((Below.refl v1.heap.size v1).alloc (Nat.le_refl _) (.cells #[.bool false, .slice none 0 0, .bool false, .slice none 0 0] 31))
        have HP_z_5 := Lib.hid (P4.lit v1 31 (.bool false) (.slice none 0 0) (.bool false) (.slice none 0 0))
        obtain ⟨v5, hV⟩ : ∃ z, World.alloc v1 (.cells #[.bool false, .slice none 0 0, .bool false, .slice none 0 0] 31) = z := ⟨_, rfl⟩
        obtain ⟨gz, hg⟩ : ∃ z, v1.heap.size = z := ⟨_, rfl⟩
        rw [hV] at HB_5 HP_z_5  ⊢
        rw [hg] at HP_z_5  ⊢
        have HG_z := Lib.hid (show yw2.heap.size ≤ gz by rw [← hg]; exact HX_1.out.size)
        have HX_5 := Lib.hid (bt HX_1.out HB_5.out)
        have G_5 := Lib.hid ((G_1.out).new HB_5.out)
        have F1_5 := Lib.hid ((F1_1.out).new HB_5.out)
        have F2_5 := Lib.hid ((F2_1.out).new HB_5.out)
        refine hK.out _ _ (⟨(HR2.out.new HX_5.out).cells.1, (HR2.out.new HX_5.out).cells.2, (HQ11.out.new HX_5.out).cells.1.1, (HQ11.out.new HX_5.out).cells.1.2.1, (HQ11.out.new HX_5.out).cells.1.2.2.1, (HQ11.out.new HX_5.out).cells.1.2.2.2, (HQ11.out.new HX_5.out).cells.2.1, (HQ11.out.new HX_5.out).cells.2.2.1, (HQ11.out.new HX_5.out).cells.2.2.2.1, (HQ11.out.new HX_5.out).cells.2.2.2.2, HX_5.out⟩) (fun hHeld2 => ?_)
        clear hHeld
        have hHeld := hHeld2
        clear hHeld2 hK K hV hg HB_5 HX_1 G_1 F1_1 F2_1
        try simp only [Act.put, List.getElem_toArray, List.getElem_cons_zero, List.getElem_cons_succ, List.setIfInBounds_toArray, List.set_cons_zero, List.set_cons_succ]
        refine wpAnyH_ready (rs := [5]) (by as_aux_lemma => kernel_rfl) (by simp) ?_
        refine AllReadyH.cons rfl (fun K hK => ?_) AllReadyH.nil
        go_simp
        go_at_call 25
        refine (fsub_any r1 1 mx mq s1 t1 s4 t4 A1 B1 A4 B4 n1 c1 m1 d1 n4 c4 m4 d4 v5 F1_5.out G_5.out (by decide) HLM.out.1.1 (i64_lim HWF.out.1) one_lim HLM.out.1.2.1 HLM.out.1.2.2).mono ?_
        rw [HH1.out.1]
        rintro e v6 ⟨s3, A3, n3, c3, t3, B3, m3, d3, rfl, hr1, hk⟩
        have R_6 := Lib.hid (hr1)
        have HB_6 := Lib.hid hk
        go_wp2_with fail
        clear F1_5
        clear F2_5
        clear G_5
        have HX_6 := Lib.hid (bt HX_5.out HB_6.out)
        have HP_z_6 := Lib.hid (HP_z_5.out.new HB_6.out)
        refine hK.out _ _ (⟨(HR2.out.new HX_6.out).cells.1, (HR2.out.new HX_6.out).cells.2, (HQ11.out.new HX_6.out).cells.1.1, (HQ11.out.new HX_6.out).cells.1.2.1, (HQ11.out.new HX_6.out).cells.1.2.2.1, (HQ11.out.new HX_6.out).cells.1.2.2.2, (HQ11.out.new HX_6.out).cells.2.1, (HQ11.out.new HX_6.out).cells.2.2.1, (HQ11.out.new HX_6.out).cells.2.2.2.1, (HQ11.out.new HX_6.out).cells.2.2.2.2, HX_6.out⟩) (fun hHeld2 => ?_)
        clear hHeld
        have hHeld := hHeld2
        clear hHeld2 hK K hk HB_6 hr1 HX_5 HP_z_5
        try simp only [Act.put, List.getElem_toArray, List.getElem_cons_zero, List.getElem_cons_succ, List.setIfInBounds_toArray, List.set_cons_zero, List.set_cons_succ]
        refine wpAnyH_take (i := 6) (v := ?_) rfl (by as_aux_lemma => kernel_rfl) (by as_aux_lemma => kernel_rfl) (by as_aux_lemma => kernel_rfl) (fun _ _ _ h => h) (Or.inl ⟨(by as_aux_lemma => kernel_rfl), ?_⟩) (by assumption) ?_
        rotate_left
        · intro w hSw
          (try dsimp only at hSw)
          go_simp
          all_goals (with_reducible rfl)
        try simp only [Act.put, List.getElem_toArray, List.getElem_cons_zero, List.getElem_cons_succ, List.setIfInBounds_toArray, List.set_cons_zero, List.set_cons_succ]
        refine wpAnyH_take (i := 7) (v := ?_) rfl (by as_aux_lemma => kernel_rfl) (by as_aux_lemma => kernel_rfl) (by as_aux_lemma => kernel_rfl) (fun _ _ _ h => h) (Or.inl ⟨(by as_aux_lemma => kernel_rfl), ?_⟩) (by assumption) ?_
        rotate_left
        · intro w hSw
          (try dsimp only at hSw)
          go_simp
          all_goals (with_reducible rfl)
        try simp only [Act.put, List.getElem_toArray, List.getElem_cons_zero, List.getElem_cons_succ, List.setIfInBounds_toArray, List.set_cons_zero, List.set_cons_succ]
        refine wpAnyH_take (i := 8) (v := ?_) rfl (by as_aux_lemma => kernel_rfl) (by as_aux_lemma => kernel_rfl) (by as_aux_lemma => kernel_rfl) (fun _ _ _ h => h) (Or.inl ⟨(by as_aux_lemma => kernel_rfl), ?_⟩) (by assumption) ?_
        rotate_left
        · intro w hSw
          (try dsimp only at hSw)
          go_simp
          all_goals (with_reducible rfl)
        try simp only [Act.put, List.getElem_toArray, List.getElem_cons_zero, List.getElem_cons_succ, List.setIfInBounds_toArray, List.set_cons_zero, List.set_cons_succ]
        refine wpAnyH_ready (rs := [10]) (by as_aux_lemma => kernel_rfl) (by simp) ?_
        refine AllReadyH.cons rfl (fun K hK => ?_) AllReadyH.nil
        obtain ⟨z0, z1, z2, z3⟩ := HP_z_6.out.cells
        have y0 := HP_z_6.out.frozen 0
        have y1 := HP_z_6.out.frozen 1
        have y2 := HP_z_6.out.frozen 2
        have y3 := HP_z_6.out.frozen 3
        have z9 := HP_z_6.out.lt
        go_simp
        obtain ⟨v7, hV⟩ : ∃ z, World.setCell (World.setCell (World.setCell (World.setCell v6 ⟨gz, 0, none⟩ (.bool s3)) ⟨gz, 1, none⟩ (.slice A3 n3 c3)) ⟨gz, 2, none⟩ (.bool t3)) ⟨gz, 3, none⟩ (.slice B3 m3 d3) = z := ⟨_, rfl⟩
        rw [hV]
        have HX_7 := Lib.hid (show Below yw2.heap.size yw2 v7 by rw [← hV]; exact below_box4 HX_6.out (HG_z.out) _ _ _ _)
        have R_7 := Lib.hid (show PF v7 s3 A3 n3 c3 t3 B3 m3 d3 (adP r1 1 (-mx) mq) (adQ r1 1 (-mx) mq) by rw [← hV]; exact PF.box4 (R_6.out) (HP_z_6.out) (.bool s3) (.slice A3 n3 c3) (.bool t3) (.slice B3 m3 d3))
        have HP_z_7 := Lib.hid (show P4 31 v7 gz (.bool s3) (.slice A3 n3 c3) (.bool t3) (.slice B3 m3 d3) by rw [← hV]; exact HP_z_6.out.all (.bool s3) (.slice A3 n3 c3) (.bool t3) (.slice B3 m3 d3))
        refine hK.out _ _ (⟨(HR2.out.new HX_7.out).cells.1, (HR2.out.new HX_7.out).cells.2, (HQ11.out.new HX_7.out).cells.1.1, (HQ11.out.new HX_7.out).cells.1.2.1, (HQ11.out.new HX_7.out).cells.1.2.2.1, (HQ11.out.new HX_7.out).cells.1.2.2.2, (HQ11.out.new HX_7.out).cells.2.1, (HQ11.out.new HX_7.out).cells.2.2.1, (HQ11.out.new HX_7.out).cells.2.2.2.1, (HQ11.out.new HX_7.out).cells.2.2.2.2, HX_7.out⟩) (fun hHeld2 => ?_)
        clear hHeld
        have hHeld := hHeld2
        clear hHeld2 hK K hV z9 z0 z1 z2 z3 y0 y1 y2 y3 HX_6 R_6 HP_z_6
        try simp only [Act.put, List.getElem_toArray, List.getElem_cons_zero, List.getElem_cons_succ, List.setIfInBounds_toArray, List.set_cons_zero, List.set_cons_succ]
        refine wpAnyH_take (i := 11) (v := ?_) rfl (by as_aux_lemma => kernel_rfl) (by as_aux_lemma => kernel_rfl) (by as_aux_lemma => kernel_rfl) (fun _ _ _ h => h) (Or.inl ⟨(by as_aux_lemma => kernel_rfl), ?_⟩) (by assumption) ?_
        rotate_left
        · intro w hSw
          (try dsimp only at hSw)
          go_simp
          all_goals (with_reducible rfl)
        try simp only [Act.put, List.getElem_toArray, List.getElem_cons_zero, List.getElem_cons_succ, List.setIfInBounds_toArray, List.set_cons_zero, List.set_cons_succ]
        refine wpAnyH_done (by as_aux_lemma => kernel_rfl) ?_ _
        clear hHeld
        go_wp2_with fail
        go_meet
        exact ⟨gz, s3, A3, n3, c3, t3, B3, m3, d3, rfl, rfl, HP_z_7.out, R_7.out, HX_7.out⟩
        refine AllReadyH.cons rfl (fun K hK => ?_) AllReadyH.nil
        go_simp
        have HB_8 := Lib.hid ((Below.refl v0.heap.size v0).alloc (Nat.le_refl _) (.cells #[.bool false, .slice none 0 0, .bool false, .slice none 0 0] 31))
        have HP_z_8 := Lib.hid (P4.lit v0 31 (.bool false) (.slice none 0 0) (.bool false) (.slice none 0 0))
        obtain ⟨v8, hV⟩ : ∃ z, World.alloc v0 (.cells #[.bool false, .slice none 0 0, .bool false, .slice none 0 0] 31) = z := ⟨_, rfl⟩
        obtain ⟨gz, hg⟩ : ∃ z, v0.heap.size = z := ⟨_, rfl⟩
        rw [hV] at HB_8 HP_z_8  ⊢
        rw [hg] at HP_z_8  ⊢
        have HG_z := Lib.hid (show yw2.heap.size ≤ gz by rw [← hg]; exact HX_0.out.size)
        have HX_8 := Lib.hid (bt HX_0.out HB_8.out)
        have G_8 := Lib.hid ((G_0.out).new HB_8.out)
        refine hK.out _ _ (⟨(HR2.out.new HX_8.out).cells.1, (HR2.out.new HX_8.out).cells.2, (HQ11.out.new HX_8.out).cells.1.1, (HQ11.out.new HX_8.out).cells.1.2.1, (HQ11.out.new HX_8.out).cells.1.2.2.1, (HQ11.out.new HX_8.out).cells.1.2.2.2, (HQ11.out.new HX_8.out).cells.2.1, (HQ11.out.new HX_8.out).cells.2.2.1, (HQ11.out.new HX_8.out).cells.2.2.2.1, (HQ11.out.new HX_8.out).cells.2.2.2.2, HX_8.out⟩) (fun hHeld2 => ?_)
        clear hHeld
        have hHeld := hHeld2
        clear hHeld2 hK K hV hg HB_8 HX_0 G_0
        try simp only [Act.put, List.getElem_toArray, List.getElem_cons_zero, List.getElem_cons_succ, List.setIfInBounds_toArray, List.set_cons_zero, List.set_cons_succ]
        refine wpAnyH_ready (rs := [1]) (by as_aux_lemma => kernel_rfl) (by simp) ?_
        refine AllReadyH.cons rfl (fun K hK => ?_) AllReadyH.nil
        go_simp
        go_at_call 26
        refine (pof_any r1 r2 v8 HWF.out.1 HWF.out.2).mono ?_
        rintro e v9 ⟨s1, A1, n1, c1, t1, B1, m1, d1, s2, A2, n2, c2, t2, B2, m2, d2, rfl, hr1, hr2, hk⟩
        have F1_9 := Lib.hid (hr1)
        have F2_9 := Lib.hid (hr2)
        have HB_9 := Lib.hid hk
        go_wp2_with fail
        have HX_9 := Lib.hid (bt HX_8.out HB_9.out)
        have G_9 := Lib.hid ((G_8.out).new HB_9.out)
        have HP_z_9 := Lib.hid (HP_z_8.out.new HB_9.out)
        refine hK.out _ _ (⟨(HR2.out.new HX_9.out).cells.1, (HR2.out.new HX_9.out).cells.2, (HQ11.out.new HX_9.out).cells.1.1, (HQ11.out.new HX_9.out).cells.1.2.1, (HQ11.out.new HX_9.out).cells.1.2.2.1, (HQ11.out.new HX_9.out).cells.1.2.2.2, (HQ11.out.new HX_9.out).cells.2.1, (HQ11.out.new HX_9.out).cells.2.2.1, (HQ11.out.new HX_9.out).cells.2.2.2.1, (HQ11.out.new HX_9.out).cells.2.2.2.2, HX_9.out⟩) (fun hHeld2 => ?_)
        clear hHeld
        have hHeld := hHeld2
        clear hHeld2 hK K hk HB_9 hr1 hr2 HX_8 G_8 HP_z_8
        try simp only [Act.put, List.getElem_toArray, List.getElem_cons_zero, List.getElem_cons_succ, List.setIfInBounds_toArray, List.set_cons_zero, List.set_cons_succ]
        refine wpAnyH_take (i := 2) (v := ?_) rfl (by as_aux_lemma => kernel_rfl) (by as_aux_lemma => kernel_rfl) (by as_aux_lemma => kernel_rfl) (fun _ _ _ h => h) (Or.inl ⟨(by as_aux_lemma => kernel_rfl), ?_⟩) (by assumption) ?_
        rotate_left
        · intro w hSw
          (try dsimp only at hSw)
          go_simp
          all_goals (with_reducible rfl)
        try simp only [Act.put, List.getElem_toArray, List.getElem_cons_zero, List.getElem_cons_succ, List.setIfInBounds_toArray, List.set_cons_zero, List.set_cons_succ]
        refine wpAnyH_ready (rs := [5]) (by as_aux_lemma => kernel_rfl) (by simp) ?_
        refine AllReadyH.cons rfl (fun K hK => ?_) AllReadyH.nil
        go_simp
        go_at_call 25
        refine (fsub_any r1 1 mx mq s1 t1 s4 t4 A1 B1 A4 B4 n1 c1 m1 d1 n4 c4 m4 d4 v9 F1_9.out G_9.out (by decide) HLM.out.1.1 (i64_lim HWF.out.1) one_lim HLM.out.1.2.1 HLM.out.1.2.2).mono ?_
        rw [HH1.out.1]
        rintro e v10 ⟨s3, A3, n3, c3, t3, B3, m3, d3, rfl, hr1, hk⟩
        have R_10 := Lib.hid (hr1)
        have HB_10 := Lib.hid hk
        go_wp2_with fail
        clear F1_9
        clear F2_9
        clear G_9
        have HX_10 := Lib.hid (bt HX_9.out HB_10.out)
        have HP_z_10 := Lib.hid (HP_z_9.out.new HB_10.out)
        refine hK.out _ _ (⟨(HR2.out.new HX_10.out).cells.1, (HR2.out.new HX_10.out).cells.2, (HQ11.out.new HX_10.out).cells.1.1, (HQ11.out.new HX_10.out).cells.1.2.1, (HQ11.out.new HX_10.out).cells.1.2.2.1, (HQ11.out.new HX_10.out).cells.1.2.2.2, (HQ11.out.new HX_10.out).cells.2.1, (HQ11.out.new HX_10.out).cells.2.2.1, (HQ11.out.new HX_10.out).cells.2.2.2.1, (HQ11.out.new HX_10.out).cells.2.2.2.2, HX_10.out⟩) (fun hHeld2 => ?_)
        clear hHeld
        have hHeld := hHeld2
        clear hHeld2 hK K hk HB_10 hr1 HX_9 HP_z_9
        try simp only [Act.put, List.getElem_toArray, List.getElem_cons_zero, List.getElem_cons_succ, List.setIfInBounds_toArray, List.set_cons_zero, List.set_cons_succ]
        refine wpAnyH_take (i := 6) (v := ?_) rfl (by as_aux_lemma => kernel_rfl) (by as_aux_lemma => kernel_rfl) (by as_aux_lemma => kernel_rfl) (fun _ _ _ h => h) (Or.inl ⟨(by as_aux_lemma => kernel_rfl), ?_⟩) (by assumption) ?_
        rotate_left
        · intro w hSw
          (try dsimp only at hSw)
          go_simp
          all_goals (with_reducible rfl)
        try simp only [Act.put, List.getElem_toArray, List.getElem_cons_zero, List.getElem_cons_succ, List.setIfInBounds_toArray, List.set_cons_zero, List.set_cons_succ]
        refine wpAnyH_take (i := 7) (v := ?_) rfl (by as_aux_lemma => kernel_rfl) (by as_aux_lemma => kernel_rfl) (by as_aux_lemma => kernel_rfl) (fun _ _ _ h => h) (Or.inl ⟨(by as_aux_lemma => kernel_rfl), ?_⟩) (by assumption) ?_
        rotate_left
        · intro w hSw
          (try dsimp only at hSw)
          go_simp
          all_goals (with_reducible rfl)
        try simp only [Act.put, List.getElem_toArray, List.getElem_cons_zero, List.getElem_cons_succ, List.setIfInBounds_toArray, List.set_cons_zero, List.set_cons_succ]
        refine wpAnyH_take (i := 8) (v := ?_) rfl (by as_aux_lemma => kernel_rfl) (by as_aux_lemma => kernel_rfl) (by as_aux_lemma => kernel_rfl) (fun _ _ _ h => h) (Or.inl ⟨(by as_aux_lemma => kernel_rfl), ?_⟩) (by assumption) ?_
        rotate_left
        · intro w hSw
          (try dsimp only at hSw)
          go_simp
          all_goals (with_reducible rfl)
        try simp only [Act.put, List.getElem_toArray, List.getElem_cons_zero, List.getElem_cons_succ, List.setIfInBounds_toArray, List.set_cons_zero, List.set_cons_succ]
        refine wpAnyH_ready (rs := [10]) (by as_aux_lemma => kernel_rfl) (by simp) ?_
        refine AllReadyH.cons rfl (fun K hK => ?_) AllReadyH.nil
        obtain ⟨z0, z1, z2, z3⟩ := HP_z_10.out.cells
        have y0 := HP_z_10.out.frozen 0
        have y1 := HP_z_10.out.frozen 1
        have y2 := HP_z_10.out.frozen 2
        have y3 := HP_z_10.out.frozen 3
        have z9 := HP_z_10.out.lt
        go_simp
        obtain ⟨v11, hV⟩ : ∃ z, World.setCell (World.setCell (World.setCell (World.setCell v10 ⟨gz, 0, none⟩ (.bool s3)) ⟨gz, 1, none⟩ (.slice A3 n3 c3)) ⟨gz, 2, none⟩ (.bool t3)) ⟨gz, 3, none⟩ (.slice B3 m3 d3) = z := ⟨_, rfl⟩
        rw [hV]
        have HX_11 := Lib.hid (show Below yw2.heap.size yw2 v11 by rw [← hV]; exact below_box4 HX_10.out (HG_z.out) _ _ _ _)
        have R_11 := Lib.hid (show PF v11 s3 A3 n3 c3 t3 B3 m3 d3 (adP r1 1 (-mx) mq) (adQ r1 1 (-mx) mq) by rw [← hV]; exact PF.box4 (R_10.out) (HP_z_10.out) (.bool s3) (.slice A3 n3 c3) (.bool t3) (.slice B3 m3 d3))
        have HP_z_11 := Lib.hid (show P4 31 v11 gz (.bool s3) (.slice A3 n3 c3) (.bool t3) (.slice B3 m3 d3) by rw [← hV]; exact HP_z_10.out.all (.bool s3) (.slice A3 n3 c3) (.bool t3) (.slice B3 m3 d3))
        refine hK.out _ _ (⟨(HR2.out.new HX_11.out).cells.1, (HR2.out.new HX_11.out).cells.2, (HQ11.out.new HX_11.out).cells.1.1, (HQ11.out.new HX_11.out).cells.1.2.1, (HQ11.out.new HX_11.out).cells.1.2.2.1, (HQ11.out.new HX_11.out).cells.1.2.2.2, (HQ11.out.new HX_11.out).cells.2.1, (HQ11.out.new HX_11.out).cells.2.2.1, (HQ11.out.new HX_11.out).cells.2.2.2.1, (HQ11.out.new HX_11.out).cells.2.2.2.2, HX_11.out⟩) (fun hHeld2 => ?_)
        clear hHeld
        have hHeld := hHeld2
        clear hHeld2 hK K hV z9 z0 z1 z2 z3 y0 y1 y2 y3 HX_10 R_10 HP_z_10
        try simp only [Act.put, List.getElem_toArray, List.getElem_cons_zero, List.getElem_cons_succ, List.setIfInBounds_toArray, List.set_cons_zero, List.set_cons_succ]
        refine wpAnyH_take (i := 11) (v := ?_) rfl (by as_aux_lemma => kernel_rfl) (by as_aux_lemma => kernel_rfl) (by as_aux_lemma => kernel_rfl) (fun _ _ _ h => h) (Or.inl ⟨(by as_aux_lemma => kernel_rfl), ?_⟩) (by assumption) ?_
        rotate_left
        · intro w hSw
          (try dsimp only at hSw)
          go_simp
          all_goals (with_reducible rfl)
        try simp only [Act.put, List.getElem_toArray, List.getElem_cons_zero, List.getElem_cons_succ, List.setIfInBounds_toArray, List.set_cons_zero, List.set_cons_succ]
        refine wpAnyH_done (by as_aux_lemma => kernel_rfl) ?_ _
        clear hHeld
        go_wp2_with fail
        go_meet
        exact ⟨gz, s3, A3, n3, c3, t3, B3, m3, d3, rfl, rfl, HP_z_11.out, R_11.out, HX_11.out⟩
      case rest =>
        obtain ⟨gx, s3, A3, n3, c3, t3, B3, m3, d3, rfl, rfl, hq, h3, hbx⟩ := hcut
        obtain ⟨yw3, rfl⟩ := nm_world hbx
        have HQx := Lib.hid hq
        have Hx := Lib.hid h3
        have HR3 := Lib.hid (HR2.out.new hbx)
        have HQ12 := Lib.hid (HQ11.out.new hbx)
        have HQh3 := Lib.hid (HQh.out.new hbx)
        have Hh3 := Lib.hid (Hh.out.new hbx)
        have G5c := Lib.hid (G5b.out.new hbx)
        have HW12 := Lib.hid (bt HW11.out hbx)
        clear hq h3 hbx HR2 HQ11 HQh Hh G4b G5b HW11 HX12
        have HX13 := Lib.hid (Below.refl yw3.heap.size yw3)
        go_upto_region 13 with fail
        go_cut [18, 19] (fun tp tc wx => ∃ (q : Nat) (s6 : Bool) (A6 : Option Addr) (n6 c6 : Nat) (t6 : Bool) (B6 : Option Addr) (m6 d6 : Nat), tp = .pointer (some ⟨q, 0, none⟩) ∧ tc = .int .i64 0 ∧ P4 31 wx q (.bool s6) (.slice A6 n6 c6) (.bool t6) (.slice B6 m6 d6) ∧ PF wx s6 A6 n6 c6 t6 B6 m6 d6 (adP r2 1 (-my) mv) (adQ r2 1 (-my) mv) ∧ Below yw3.heap.size yw3 wx)
        case first =>
          obtain ⟨v0, hv0⟩ : ∃ z, World.drew yw3 = z := ⟨_, rfl⟩
          have HD0 := Lib.hid (show Below yw3.heap.size yw3 v0 by rw [← hv0]; exact (Below.refl _ _).drew)
          have HX_0 := Lib.hid (bt HX13.out HD0.out)
          have G_0 := Lib.hid ((G5c.out).new HD0.out)
          refine wp_region_held_drew (S := (fun w' : World => w'.cell? ⟨gr, 0, none⟩ = some (.int .i64 r1) ∧ w'.cell? ⟨gr, 1, none⟩ = some (.int .i64 r2) ∧ w'.cell? ⟨gm, 0, none⟩ = some (.bool s4) ∧ w'.cell? ⟨gm, 1, none⟩ = some (.slice A4 n4 c4) ∧ w'.cell? ⟨gm, 2, none⟩ = some (.bool t4) ∧ w'.cell? ⟨gm, 3, none⟩ = some (.slice B4 m4 d4) ∧ w'.cell? ⟨gm, 4, none⟩ = some (.bool s5) ∧ w'.cell? ⟨gm, 5, none⟩ = some (.slice A5 n5 c5) ∧ w'.cell? ⟨gm, 6, none⟩ = some (.bool t5) ∧ w'.cell? ⟨gm, 7, none⟩ = some (.slice B5 m5 d5) ∧ Below yw3.heap.size yw3 w')) (by as_aux_lemma => kernel_rfl) ?_ (fun hHeld => ?_)
          · rw [hv0]
            exact ⟨(HR3.out.new HX_0.out).cells.1, (HR3.out.new HX_0.out).cells.2, (HQ12.out.new HX_0.out).cells.1.1, (HQ12.out.new HX_0.out).cells.1.2.1, (HQ12.out.new HX_0.out).cells.1.2.2.1, (HQ12.out.new HX_0.out).cells.1.2.2.2, (HQ12.out.new HX_0.out).cells.2.1, (HQ12.out.new HX_0.out).cells.2.2.1, (HQ12.out.new HX_0.out).cells.2.2.2.1, (HQ12.out.new HX_0.out).cells.2.2.2.2, HX_0.out⟩
          rw [hv0] at hHeld ⊢
          clear hv0 HD0
          refine wpAnyH_take (i := 0) (v := ?_) rfl (by as_aux_lemma => kernel_rfl) (by as_aux_lemma => kernel_rfl) (by as_aux_lemma => kernel_rfl) (fun _ _ _ h => h) (Or.inl ⟨(by as_aux_lemma => kernel_rfl), ?_⟩) (by assumption) ?_
          rotate_left
          · intro w hSw
            (try dsimp only at hSw)
            go_simp
            all_goals (with_reducible rfl)
          try simp only [Act.put, List.getElem_toArray, List.getElem_cons_zero, List.setIfInBounds_toArray, List.set_cons_zero, List.set_cons_succ]
          refine wpAnyH_take (i := 3) (v := ?_) rfl (by as_aux_lemma => kernel_rfl) (by as_aux_lemma => kernel_rfl) (by as_aux_lemma => kernel_rfl) (fun _ _ _ h => h) (Or.inl ⟨(by as_aux_lemma => kernel_rfl), ?_⟩) (by assumption) ?_
          rotate_left
          · intro w hSw
            (try dsimp only at hSw)
            go_simp
            all_goals (with_reducible rfl)
          try simp only [Act.put, List.getElem_toArray, List.getElem_cons_zero, List.getElem_cons_succ, List.setIfInBounds_toArray, List.set_cons_zero, List.set_cons_succ]
          refine wpAnyH_take (i := 4) (v := ?_) rfl (by as_aux_lemma => kernel_rfl) (by as_aux_lemma => kernel_rfl) (by as_aux_lemma => kernel_rfl) (fun _ _ _ h => h) (Or.inl ⟨(by as_aux_lemma => kernel_rfl), ?_⟩) (by assumption) ?_
          rotate_left
          · intro w hSw
            (try dsimp only at hSw)
            go_simp
            all_goals (with_reducible rfl)
          try simp only [Act.put, List.getElem_toArray, List.getElem_cons_zero, List.getElem_cons_succ, List.setIfInBounds_toArray, List.set_cons_zero, List.set_cons_succ]
          refine wpAnyH_ready (rs := [1, 9]) (by as_aux_lemma => kernel_rfl) (by simp) ?_
          refine AllReadyH.cons rfl (fun K hK => ?_) ?_
          go_simp
          go_at_call 26
          refine (pof_any r1 r2 v0 HWF.out.1 HWF.out.2).mono ?_
          rintro e v1 ⟨s1, A1, n1, c1, t1, B1, m1, d1, s2, A2, n2, c2, t2, B2, m2, d2, rfl, hr1, hr2, hk⟩
          have F1_1 := Lib.hid (hr1)
          have F2_1 := Lib.hid (hr2)
          have HB_1 := Lib.hid hk
          go_wp2_with fail
          have HX_1 := Lib.hid (bt HX_0.out HB_1.out)
          have G_1 := Lib.hid ((G_0.out).new HB_1.out)
          refine hK.out _ _ (⟨(HR3.out.new HX_1.out).cells.1, (HR3.out.new HX_1.out).cells.2, (HQ12.out.new HX_1.out).cells.1.1, (HQ12.out.new HX_1.out).cells.1.2.1, (HQ12.out.new HX_1.out).cells.1.2.2.1, (HQ12.out.new HX_1.out).cells.1.2.2.2, (HQ12.out.new HX_1.out).cells.2.1, (HQ12.out.new HX_1.out).cells.2.2.1, (HQ12.out.new HX_1.out).cells.2.2.2.1, (HQ12.out.new HX_1.out).cells.2.2.2.2, HX_1.out⟩) (fun hHeld2 => ?_)
          clear hHeld
          have hHeld := hHeld2
          clear hHeld2 hK K hk HB_1 hr1 hr2 HX_0 G_0
          try simp only [Act.put, List.getElem_toArray, List.getElem_cons_zero, List.getElem_cons_succ, List.setIfInBounds_toArray, List.set_cons_zero, List.set_cons_succ]
          refine wpAnyH_take (i := 2) (v := ?_) rfl (by as_aux_lemma => kernel_rfl) (by as_aux_lemma => kernel_rfl) (by as_aux_lemma => kernel_rfl) (fun _ _ _ h => h) (Or.inl ⟨(by as_aux_lemma => kernel_rfl), ?_⟩) (by assumption) ?_
          rotate_left
          · intro w hSw
            (try dsimp only at hSw)
            go_simp
            all_goals (with_reducible rfl)
          try simp only [Act.put, List.getElem_toArray, List.getElem_cons_zero, List.getElem_cons_succ, List.setIfInBounds_toArray, List.set_cons_zero, List.set_cons_succ]
          refine wpAnyH_ready (rs := [5, 9]) (by as_aux_lemma => kernel_rfl) (by simp) ?_
          refine AllReadyH.cons rfl (fun K hK => ?_) ?_
          go_simp
          go_at_call 25
          refine (fsub_any r2 1 my mv s2 t2 s5 t5 A2 B2 A5 B5 n2 c2 m2 d2 n5 c5 m5 d5 v1 F2_1.out G_1.out (by decide) HLM.out.2.1 (i64_lim HWF.out.2) one_lim HLM.out.2.2.1 HLM.out.2.2.2).mono ?_
          rw [HH2.out.1]
          rintro e v2 ⟨s6, A6, n6, c6, t6, B6, m6, d6, rfl, hr1, hk⟩
          have R_2 := Lib.hid (hr1)
          have HB_2 := Lib.hid hk
          go_wp2_with fail
          clear F1_1
          clear F2_1
          clear G_1
          have HX_2 := Lib.hid (bt HX_1.out HB_2.out)
          refine hK.out _ _ (⟨(HR3.out.new HX_2.out).cells.1, (HR3.out.new HX_2.out).cells.2, (HQ12.out.new HX_2.out).cells.1.1, (HQ12.out.new HX_2.out).cells.1.2.1, (HQ12.out.new HX_2.out).cells.1.2.2.1, (HQ12.out.new HX_2.out).cells.1.2.2.2, (HQ12.out.new HX_2.out).cells.2.1, (HQ12.out.new HX_2.out).cells.2.2.1, (HQ12.out.new HX_2.out).cells.2.2.2.1, (HQ12.out.new HX_2.out).cells.2.2.2.2, HX_2.out⟩) (fun hHeld2 => ?_)
          clear hHeld
          have hHeld := hHeld2
          clear hHeld2 hK K hk HB_2 hr1 HX_1
          try simp only [Act.put, List.getElem_toArray, List.getElem_cons_zero, List.getElem_cons_succ, List.setIfInBounds_toArray, List.set_cons_zero, List.set_cons_succ]
          refine wpAnyH_take (i := 6) (v := ?_) rfl (by as_aux_lemma => kernel_rfl) (by as_aux_lemma => kernel_rfl) (by as_aux_lemma => kernel_rfl) (fun _ _ _ h => h) (Or.inl ⟨(by as_aux_lemma => kernel_rfl), ?_⟩) (by assumption) ?_
          rotate_left
          · intro w hSw
            (try dsimp only at hSw)
            go_simp
            all_goals (with_reducible rfl)
          try simp only [Act.put, List.getElem_toArray, List.getElem_cons_zero, List.getElem_cons_succ, List.setIfInBounds_toArray, List.set_cons_zero, List.set_cons_succ]
          refine wpAnyH_take (i := 7) (v := ?_) rfl (by as_aux_lemma => kernel_rfl) (by as_aux_lemma => kernel_rfl) (by as_aux_lemma => kernel_rfl) (fun _ _ _ h => h) (Or.inl ⟨(by as_aux_lemma => kernel_rfl), ?_⟩) (by assumption) ?_
          rotate_left
          · intro w hSw
            (try dsimp only at hSw)
            go_simp
            all_goals (with_reducible rfl)
          try simp only [Act.put, List.getElem_toArray, List.getElem_cons_zero, List.getElem_cons_succ, List.setIfInBounds_toArray, List.set_cons_zero, List.set_cons_succ]
          refine wpAnyH_take (i := 8) (v := ?_) rfl (by as_aux_lemma => kernel_rfl) (by as_aux_lemma => kernel_rfl) (by as_aux_lemma => kernel_rfl) (fun _ _ _ h => h) (Or.inl ⟨(by as_aux_lemma => kernel_rfl), ?_⟩) (by assumption) ?_
          rotate_left
          · intro w hSw
            (try dsimp only at hSw)
            go_simp
            all_goals (with_reducible rfl)
          try simp only [Act.put, List.getElem_toArray, List.getElem_cons_zero, List.getElem_cons_succ, List.setIfInBounds_toArray, List.set_cons_zero, List.set_cons_succ]
          refine wpAnyH_ready (rs := [9]) (by as_aux_lemma => kernel_rfl) (by simp) ?_
          refine AllReadyH.cons rfl (fun K hK => ?_) AllReadyH.nil
          go_simp
          have HB_3 := Lib.hid ((Below.refl v2.heap.size v2).alloc (Nat.le_refl _) (.cells #[.bool false, .slice none 0 0, .bool false, .slice none 0 0] 31))
          have HP_z_3 := Lib.hid (P4.lit v2 31 (.bool false) (.slice none 0 0) (.bool false) (.slice none 0 0))
          obtain ⟨v3, hV⟩ : ∃ z, World.alloc v2 (.cells #[.bool false, .slice none 0 0, .bool false, .slice none 0 0] 31) = z := ⟨_, rfl⟩
          obtain ⟨gz, hg⟩ : ∃ z, v2.heap.size = z := ⟨_, rfl⟩
          rw [hV] at HB_3 HP_z_3  ⊢
          rw [hg] at HP_z_3  ⊢
          have HG_z := Lib.hid (show yw3.heap.size ≤ gz by rw [← hg]; exact HX_2.out.size)
          have HX_3 := Lib.hid (bt HX_2.out HB_3.out)
          have R_3 := Lib.hid ((R_2.out).new HB_3.out)
          refine hK.out _ _ (⟨(HR3.out.new HX_3.out).cells.1, (HR3.out.new HX_3.out).cells.2, (HQ12.out.new HX_3.out).cells.1.1, (HQ12.out.new HX_3.out).cells.1.2.1, (HQ12.out.new HX_3.out).cells.1.2.2.1, (HQ12.out.new HX_3.out).cells.1.2.2.2, (HQ12.out.new HX_3.out).cells.2.1, (HQ12.out.new HX_3.out).cells.2.2.1, (HQ12.out.new HX_3.out).cells.2.2.2.1, (HQ12.out.new HX_3.out).cells.2.2.2.2, HX_3.out⟩) (fun hHeld2 => ?_)
          clear hHeld
          have hHeld := hHeld2
          clear hHeld2 hK K hV hg HB_3 HX_2 R_2
          try simp only [Act.put, List.getElem_toArray, List.getElem_cons_zero, List.getElem_cons_succ, List.setIfInBounds_toArray, List.set_cons_zero, List.set_cons_succ]
          refine wpAnyH_ready (rs := [10]) (by as_aux_lemma => kernel_rfl) (by simp) ?_
          refine AllReadyH.cons rfl (fun K hK => ?_) AllReadyH.nil
          obtain ⟨z0, z1, z2, z3⟩ := HP_z_3.out.cells
          have y0 := HP_z_3.out.frozen 0
          have y1 := HP_z_3.out.frozen 1
          have y2 := HP_z_3.out.frozen 2
          have y3 := HP_z_3.out.frozen 3
          have z9 := HP_z_3.out.lt
          go_simp
          obtain ⟨v4, hV⟩ : ∃ z, World.setCell (World.setCell (World.setCell (World.setCell v3 ⟨gz, 0, none⟩ (.bool s6)) ⟨gz, 1, none⟩ (.slice A6 n6 c6)) ⟨gz, 2, none⟩ (.bool t6)) ⟨gz, 3, none⟩ (.slice B6 m6 d6) = z := ⟨_, rfl⟩
          rw [hV]
          have HX_4 := Lib.hid (show Below yw3.heap.size yw3 v4 by rw [← hV]; exact below_box4 HX_3.out (HG_z.out) _ _ _ _)
          have R_4 := Lib.hid (show PF v4 s6 A6 n6 c6 t6 B6 m6 d6 (adP r2 1 (-my) mv) (adQ r2 1 (-my) mv) by rw [← hV]; exact PF.box4 (R_3.out) (HP_z_3.out) (.bool s6) (.slice A6 n6 c6) (.bool t6) (.slice B6 m6 d6))
          have HP_z_4 := Lib.hid (show P4 31 v4 gz (.bool s6) (.slice A6 n6 c6) (.bool t6) (.slice B6 m6 d6) by rw [← hV]; exact HP_z_3.out.all (.bool s6) (.slice A6 n6 c6) (.bool t6) (.slice B6 m6 d6))
          refine hK.out _ _ (⟨(HR3.out.new HX_4.out).cells.1, (HR3.out.new HX_4.out).cells.2, (HQ12.out.new HX_4.out).cells.1.1, (HQ12.out.new HX_4.out).cells.1.2.1, (HQ12.out.new HX_4.out).cells.1.2.2.1, (HQ12.out.new HX_4.out).cells.1.2.2.2, (HQ12.out.new HX_4.out).cells.2.1, (HQ12.out.new HX_4.out).cells.2.2.1, (HQ12.out.new HX_4.out).cells.2.2.2.1, (HQ12.out.new HX_4.out).cells.2.2.2.2, HX_4.out⟩) (fun hHeld2 => ?_)
          clear hHeld
          have hHeld := hHeld2
          clear hHeld2 hK K hV z9 z0 z1 z2 z3 y0 y1 y2 y3 HX_3 R_3 HP_z_3
          try simp only [Act.put, List.getElem_toArray, List.getElem_cons_zero, List.getElem_cons_succ, List.setIfInBounds_toArray, List.set_cons_zero, List.set_cons_succ]
          refine wpAnyH_take (i := 11) (v := ?_) rfl (by as_aux_lemma => kernel_rfl) (by as_aux_lemma => kernel_rfl) (by as_aux_lemma => kernel_rfl) (fun _ _ _ h => h) (Or.inl ⟨(by as_aux_lemma => kernel_rfl), ?_⟩) (by assumption) ?_
          rotate_left
          · intro w hSw
            (try dsimp only at hSw)
            go_simp
            all_goals (with_reducible rfl)
          try simp only [Act.put, List.getElem_toArray, List.getElem_cons_zero, List.getElem_cons_succ, List.setIfInBounds_toArray, List.set_cons_zero, List.set_cons_succ]
          refine wpAnyH_done (by as_aux_lemma => kernel_rfl) ?_ _
          clear hHeld
          go_wp2_with fail
          go_meet
          exact ⟨gz, s6, A6, n6, c6, t6, B6, m6, d6, rfl, rfl, HP_z_4.out, R_4.out, HX_4.out⟩
          refine AllReadyH.cons rfl (fun K hK => ?_) AllReadyH.nil
          go_simp
          have HB_5 := Lib.hid ((Below.refl v1.heap.size v1).alloc (Nat.le_refl _) (.cells #[.bool false, .slice none 0 0, .bool false, .slice none 0 0] 31))
          have HP_z_5 := Lib.hid (P4.lit v1 31 (.bool false) (.slice none 0 0) (.bool false) (.slice none 0 0))
          obtain ⟨v5, hV⟩ : ∃ z, World.alloc v1 (.cells #[.bool false, .slice none 0 0, .bool false, .slice none 0 0] 31) = z := ⟨_, rfl⟩
          obtain ⟨gz, hg⟩ : ∃ z, v1.heap.size = z := ⟨_, rfl⟩
          rw [hV] at HB_5 HP_z_5  ⊢
          rw [hg] at HP_z_5  ⊢
          have HG_z := Lib.hid (show yw3.heap.size ≤ gz by rw [← hg]; exact HX_1.out.size)
          have HX_5 := Lib.hid (bt HX_1.out HB_5.out)
          have G_5 := Lib.hid ((G_1.out).new HB_5.out)
          have F1_5 := Lib.hid ((F1_1.out).new HB_5.out)
          have F2_5 := Lib.hid ((F2_1.out).new HB_5.out)
          refine hK.out _ _ (⟨(HR3.out.new HX_5.out).cells.1, (HR3.out.new HX_5.out).cells.2, (HQ12.out.new HX_5.out).cells.1.1, (HQ12.out.new HX_5.out).cells.1.2.1, (HQ12.out.new HX_5.out).cells.1.2.2.1, (HQ12.out.new HX_5.out).cells.1.2.2.2, (HQ12.out.new HX_5.out).cells.2.1, (HQ12.out.new HX_5.out).cells.2.2.1, (HQ12.out.new HX_5.out).cells.2.2.2.1, (HQ12.out.new HX_5.out).cells.2.2.2.2, HX_5.out⟩) (fun hHeld2 => ?_)
          clear hHeld
          have hHeld := hHeld2
          clear hHeld2 hK K hV hg HB_5 HX_1 G_1 F1_1 F2_1
          try simp only [Act.put, List.getElem_toArray, List.getElem_cons_zero, List.getElem_cons_succ, List.setIfInBounds_toArray, List.set_cons_zero, List.set_cons_succ]
          refine wpAnyH_ready (rs := [5]) (by as_aux_lemma => kernel_rfl) (by simp) ?_
          refine AllReadyH.cons rfl (fun K hK => ?_) AllReadyH.nil
          go_simp
          go_at_call 25
          refine (fsub_any r2 1 my mv s2 t2 s5 t5 A2 B2 A5 B5 n2 c2 m2 d2 n5 c5 m5 d5 v5 F2_5.out G_5.out (by decide) HLM.out.2.1 (i64_lim HWF.out.2) one_lim HLM.out.2.2.1 HLM.out.2.2.2).mono ?_
          rw [HH2.out.1]
          rintro e v6 ⟨s6, A6, n6, c6, t6, B6, m6, d6, rfl, hr1, hk⟩
          have R_6 := Lib.hid (hr1)
          have HB_6 := Lib.hid hk
          go_wp2_with fail
          clear F1_5
          clear F2_5
          clear G_5
          have HX_6 := Lib.hid (bt HX_5.out HB_6.out)
          have HP_z_6 := Lib.hid (HP_z_5.out.new HB_6.out)
          refine hK.out _ _ (⟨(HR3.out.new HX_6.out).cells.1, (HR3.out.new HX_6.out).cells.2, (HQ12.out.new HX_6.out).cells.1.1, (HQ12.out.new HX_6.out).cells.1.2.1, (HQ12.out.new HX_6.out).cells.1.2.2.1, (HQ12.out.new HX_6.out).cells.1.2.2.2, (HQ12.out.new HX_6.out).cells.2.1, (HQ12.out.new HX_6.out).cells.2.2.1, (HQ12.out.new HX_6.out).cells.2.2.2.1, (HQ12.out.new HX_6.out).cells.2.2.2.2, HX_6.out⟩) (fun hHeld2 => ?_)
          clear hHeld
          have hHeld := hHeld2
          clear hHeld2 hK K hk HB_6 hr1 HX_5 HP_z_5
          try simp only [Act.put, List.getElem_toArray, List.getElem_cons_zero, List.getElem_cons_succ, List.setIfInBounds_toArray, List.set_cons_zero, List.set_cons_succ]
          refine wpAnyH_take (i := 6) (v := ?_) rfl (by as_aux_lemma => kernel_rfl) (by as_aux_lemma => kernel_rfl) (by as_aux_lemma => kernel_rfl) (fun _ _ _ h => h) (Or.inl ⟨(by as_aux_lemma => kernel_rfl), ?_⟩) (by assumption) ?_
          rotate_left
          · intro w hSw
            (try dsimp only at hSw)
            go_simp
            all_goals (with_reducible rfl)
          try simp only [Act.put, List.getElem_toArray, List.getElem_cons_zero, List.getElem_cons_succ, List.setIfInBounds_toArray, List.set_cons_zero, List.set_cons_succ]
          refine wpAnyH_take (i := 7) (v := ?_) rfl (by as_aux_lemma => kernel_rfl) (by as_aux_lemma => kernel_rfl) (by as_aux_lemma => kernel_rfl) (fun _ _ _ h => h) (Or.inl ⟨(by as_aux_lemma => kernel_rfl), ?_⟩) (by assumption) ?_
          rotate_left
          · intro w hSw
            (try dsimp only at hSw)
            go_simp
            all_goals (with_reducible rfl)
          try simp only [Act.put, List.getElem_toArray, List.getElem_cons_zero, List.getElem_cons_succ, List.setIfInBounds_toArray, List.set_cons_zero, List.set_cons_succ]
          refine wpAnyH_take (i := 8) (v := ?_) rfl (by as_aux_lemma => kernel_rfl) (by as_aux_lemma => kernel_rfl) (by as_aux_lemma => kernel_rfl) (fun _ _ _ h => h) (Or.inl ⟨(by as_aux_lemma => kernel_rfl), ?_⟩) (by assumption) ?_
          rotate_left
          · intro w hSw
            (try dsimp only at hSw)
            go_simp
            all_goals (with_reducible rfl)
          try simp only [Act.put, List.getElem_toArray, List.getElem_cons_zero, List.getElem_cons_succ, List.setIfInBounds_toArray, List.set_cons_zero, List.set_cons_succ]
          refine wpAnyH_ready (rs := [10]) (by as_aux_lemma => kernel_rfl) (by simp) ?_
          refine AllReadyH.cons rfl (fun K hK => ?_) AllReadyH.nil
          obtain ⟨z0, z1, z2, z3⟩ := HP_z_6.out.cells
          have y0 := HP_z_6.out.frozen 0
          have y1 := HP_z_6.out.frozen 1
          have y2 := HP_z_6.out.frozen 2
          have y3 := HP_z_6.out.frozen 3
          have z9 := HP_z_6.out.lt
          go_simp
          obtain ⟨v7, hV⟩ : ∃ z, World.setCell (World.setCell (World.setCell (World.setCell v6 ⟨gz, 0, none⟩ (.bool s6)) ⟨gz, 1, none⟩ (.slice A6 n6 c6)) ⟨gz, 2, none⟩ (.bool t6)) ⟨gz, 3, none⟩ (.slice B6 m6 d6) = z := ⟨_, rfl⟩
          rw [hV]
          have HX_7 := Lib.hid (show Below yw3.heap.size yw3 v7 by rw [← hV]; exact below_box4 HX_6.out (HG_z.out) _ _ _ _)
          have R_7 := Lib.hid (show PF v7 s6 A6 n6 c6 t6 B6 m6 d6 (adP r2 1 (-my) mv) (adQ r2 1 (-my) mv) by rw [← hV]; exact PF.box4 (R_6.out) (HP_z_6.out) (.bool s6) (.slice A6 n6 c6) (.bool t6) (.slice B6 m6 d6))
          have HP_z_7 := Lib.hid (show P4 31 v7 gz (.bool s6) (.slice A6 n6 c6) (.bool t6) (.slice B6 m6 d6) by rw [← hV]; exact HP_z_6.out.all (.bool s6) (.slice A6 n6 c6) (.bool t6) (.slice B6 m6 d6))
          refine hK.out _ _ (⟨(HR3.out.new HX_7.out).cells.1, (HR3.out.new HX_7.out).cells.2, (HQ12.out.new HX_7.out).cells.1.1, (HQ12.out.new HX_7.out).cells.1.2.1, (HQ12.out.new HX_7.out).cells.1.2.2.1, (HQ12.out.new HX_7.out).cells.1.2.2.2, (HQ12.out.new HX_7.out).cells.2.1, (HQ12.out.new HX_7.out).cells.2.2.1, (HQ12.out.new HX_7.out).cells.2.2.2.1, (HQ12.out.new HX_7.out).cells.2.2.2.2, HX_7.out⟩) (fun hHeld2 => ?_)
          clear hHeld
          have hHeld := hHeld2
          clear hHeld2 hK K hV z9 z0 z1 z2 z3 y0 y1 y2 y3 HX_6 R_6 HP_z_6
          try simp only [Act.put, List.getElem_toArray, List.getElem_cons_zero, List.getElem_cons_succ, List.setIfInBounds_toArray, List.set_cons_zero, List.set_cons_succ]
          refine wpAnyH_take (i := 11) (v := ?_) rfl (by as_aux_lemma => kernel_rfl) (by as_aux_lemma => kernel_rfl) (by as_aux_lemma => kernel_rfl) (fun _ _ _ h => h) (Or.inl ⟨(by as_aux_lemma => kernel_rfl), ?_⟩) (by assumption) ?_
          rotate_left
          · intro w hSw
            (try dsimp only at hSw)
            go_simp
            all_goals (with_reducible rfl)
          try simp only [Act.put, List.getElem_toArray, List.getElem_cons_zero, List.getElem_cons_succ, List.setIfInBounds_toArray, List.set_cons_zero, List.set_cons_succ]
          refine wpAnyH_done (by as_aux_lemma => kernel_rfl) ?_ _
          clear hHeld
          go_wp2_with fail
          go_meet
          exact ⟨gz, s6, A6, n6, c6, t6, B6, m6, d6, rfl, rfl, HP_z_7.out, R_7.out, HX_7.out⟩
          refine AllReadyH.cons rfl (fun K hK => ?_) AllReadyH.nil
          go_simp
          have HB_8 := Lib.hid ((Below.refl v0.heap.size v0).alloc (Nat.le_refl _) (.cells #[.bool false, .slice none 0 0, .bool false, .slice none 0 0] 31))
          have HP_z_8 := Lib.hid (P4.lit v0 31 (.bool false) (.slice none 0 0) (.bool false) (.slice none 0 0))
          obtain ⟨v8, hV⟩ : ∃ z, World.alloc v0 (.cells #[.bool false, .slice none 0 0, .bool false, .slice none 0 0] 31) = z := ⟨_, rfl⟩
          obtain ⟨gz, hg⟩ : ∃ z, v0.heap.size = z := ⟨_, rfl⟩
          rw [hV] at HB_8 HP_z_8  ⊢
          rw [hg] at HP_z_8  ⊢
          have HG_z := Lib.hid (show yw3.heap.size ≤ gz by rw [← hg]; exact HX_0.out.size)
          have HX_8 := Lib.hid (bt HX_0.out HB_8.out)
          have G_8 := Lib.hid ((G_0.out).new HB_8.out)
          refine hK.out _ _ (⟨(HR3.out.new HX_8.out).cells.1, (HR3.out.new HX_8.out).cells.2, (HQ12.out.new HX_8.out).cells.1.1, (HQ12.out.new HX_8.out).cells.1.2.1, (HQ12.out.new HX_8.out).cells.1.2.2.1, (HQ12.out.new HX_8.out).cells.1.2.2.2, (HQ12.out.new HX_8.out).cells.2.1, (HQ12.out.new HX_8.out).cells.2.2.1, (HQ12.out.new HX_8.out).cells.2.2.2.1, (HQ12.out.new HX_8.out).cells.2.2.2.2, HX_8.out⟩) (fun hHeld2 => ?_)
          clear hHeld
          have hHeld := hHeld2
          clear hHeld2 hK K hV hg HB_8 HX_0 G_0
          try simp only [Act.put, List.getElem_toArray, List.getElem_cons_zero, List.getElem_cons_succ, List.setIfInBounds_toArray, List.set_cons_zero, List.set_cons_succ]
          refine wpAnyH_ready (rs := [1]) (by as_aux_lemma => kernel_rfl) (by simp) ?_
          refine AllReadyH.cons rfl (fun K hK => ?_) AllReadyH.nil
          go_simp
          go_at_call 26
          refine (pof_any r1 r2 v8 HWF.out.1 HWF.out.2).mono ?_
          rintro e v9 ⟨s1, A1, n1, c1, t1, B1, m1, d1, s2, A2, n2, c2, t2, B2, m2, d2, rfl, hr1, hr2, hk⟩
          have F1_9 := Lib.hid (hr1)
          have F2_9 := Lib.hid (hr2)
          have HB_9 := Lib.hid hk
          go_wp2_with fail
          have HX_9 := Lib.hid (bt HX_8.out HB_9.out)
          have G_9 := Lib.hid ((G_8.out).new HB_9.out)
          have HP_z_9 := Lib.hid (HP_z_8.out.new HB_9.out)
          refine hK.out _ _ (⟨(HR3.out.new HX_9.out).cells.1, (HR3.out.new HX_9.out).cells.2, (HQ12.out.new HX_9.out).cells.1.1, (HQ12.out.new HX_9.out).cells.1.2.1, (HQ12.out.new HX_9.out).cells.1.2.2.1, (HQ12.out.new HX_9.out).cells.1.2.2.2, (HQ12.out.new HX_9.out).cells.2.1, (HQ12.out.new HX_9.out).cells.2.2.1, (HQ12.out.new HX_9.out).cells.2.2.2.1, (HQ12.out.new HX_9.out).cells.2.2.2.2, HX_9.out⟩) (fun hHeld2 => ?_)
          clear hHeld
          have hHeld := hHeld2
          clear hHeld2 hK K hk HB_9 hr1 hr2 HX_8 G_8 HP_z_8
          try simp only [Act.put, List.getElem_toArray, List.getElem_cons_zero, List.getElem_cons_succ, List.setIfInBounds_toArray, List.set_cons_zero, List.set_cons_succ]
          refine wpAnyH_take (i := 2) (v := ?_) rfl (by as_aux_lemma => kernel_rfl) (by as_aux_lemma => kernel_rfl) (by as_aux_lemma => kernel_rfl) (fun _ _ _ h => h) (Or.inl ⟨(by as_aux_lemma => kernel_rfl), ?_⟩) (by assumption) ?_
          rotate_left
          · intro w hSw
            (try dsimp only at hSw)
            go_simp
            all_goals (with_reducible rfl)
          try simp only [Act.put, List.getElem_toArray, List.getElem_cons_zero, List.getElem_cons_succ, List.setIfInBounds_toArray, List.set_cons_zero, List.set_cons_succ]
          refine wpAnyH_ready (rs := [5]) (by as_aux_lemma => kernel_rfl) (by simp) ?_
          refine AllReadyH.cons rfl (fun K hK => ?_) AllReadyH.nil
          go_simp
          go_at_call 25
          refine (fsub_any r2 1 my mv s2 t2 s5 t5 A2 B2 A5 B5 n2 c2 m2 d2 n5 c5 m5 d5 v9 F2_9.out G_9.out (by decide) HLM.out.2.1 (i64_lim HWF.out.2) one_lim HLM.out.2.2.1 HLM.out.2.2.2).mono ?_
          rw [HH2.out.1]
          rintro e v10 ⟨s6, A6, n6, c6, t6, B6, m6, d6, rfl, hr1, hk⟩
          have R_10 := Lib.hid (hr1)
          have HB_10 := Lib.hid hk
          go_wp2_with fail
          clear F1_9
          clear F2_9
          clear G_9
          have HX_10 := Lib.hid (bt HX_9.out HB_10.out)
          have HP_z_10 := Lib.hid (HP_z_9.out.new HB_10.out)
          refine hK.out _ _ (⟨(HR3.out.new HX_10.out).cells.1, (HR3.out.new HX_10.out).cells.2, (HQ12.out.new HX_10.out).cells.1.1, (HQ12.out.new HX_10.out).cells.1.2.1, (HQ12.out.new HX_10.out).cells.1.2.2.1, (HQ12.out.new HX_10.out).cells.1.2.2.2, (HQ12.out.new HX_10.out).cells.2.1, (HQ12.out.new HX_10.out).cells.2.2.1, (HQ12.out.new HX_10.out).cells.2.2.2.1, (HQ12.out.new HX_10.out).cells.2.2.2.2, HX_10.out⟩) (fun hHeld2 => ?_)
          clear hHeld
          have hHeld := hHeld2
          clear hHeld2 hK K hk HB_10 hr1 HX_9 HP_z_9
          try simp only [Act.put, List.getElem_toArray, List.getElem_cons_zero, List.getElem_cons_succ, List.setIfInBounds_toArray, List.set_cons_zero, List.set_cons_succ]
          refine wpAnyH_take (i := 6) (v := ?_) rfl (by as_aux_lemma => kernel_rfl) (by as_aux_lemma => kernel_rfl) (by as_aux_lemma => kernel_rfl) (fun _ _ _ h => h) (Or.inl ⟨(by as_aux_lemma => kernel_rfl), ?_⟩) (by assumption) ?_
          rotate_left
          · intro w hSw
            (try dsimp only at hSw)
            go_simp
            all_goals (with_reducible rfl)
          try simp only [Act.put, List.getElem_toArray, List.getElem_cons_zero, List.getElem_cons_succ, List.setIfInBounds_toArray, List.set_cons_zero, List.set_cons_succ]
          refine wpAnyH_take (i := 7) (v := ?_) rfl (by as_aux_lemma => kernel_rfl) (by as_aux_lemma => kernel_rfl) (by as_aux_lemma => kernel_rfl) (fun _ _ _ h => h) (Or.inl ⟨(by as_aux_lemma => kernel_rfl), ?_⟩) (by assumption) ?_
          rotate_left
          · intro w hSw
            (try dsimp only at hSw)
            go_simp
            all_goals (with_reducible rfl)
          try simp only [Act.put, List.getElem_toArray, List.getElem_cons_zero, List.getElem_cons_succ, List.setIfInBounds_toArray, List.set_cons_zero, List.set_cons_succ]
          refine wpAnyH_take (i := 8) (v := ?_) rfl (by as_aux_lemma => kernel_rfl) (by as_aux_lemma => kernel_rfl) (by as_aux_lemma => kernel_rfl) (fun _ _ _ h => h) (Or.inl ⟨(by as_aux_lemma => kernel_rfl), ?_⟩) (by assumption) ?_
          rotate_left
          · intro w hSw
            (try dsimp only at hSw)
            go_simp
            all_goals (with_reducible rfl)
          try simp only [Act.put, List.getElem_toArray, List.getElem_cons_zero, List.getElem_cons_succ, List.setIfInBounds_toArray, List.set_cons_zero, List.set_cons_succ]
          refine wpAnyH_ready (rs := [10]) (by as_aux_lemma => kernel_rfl) (by simp) ?_
          refine AllReadyH.cons rfl (fun K hK => ?_) AllReadyH.nil
          obtain ⟨z0, z1, z2, z3⟩ := HP_z_10.out.cells
          have y0 := HP_z_10.out.frozen 0
          have y1 := HP_z_10.out.frozen 1
          have y2 := HP_z_10.out.frozen 2
          have y3 := HP_z_10.out.frozen 3
          have z9 := HP_z_10.out.lt
          go_simp
          obtain ⟨v11, hV⟩ : ∃ z, World.setCell (World.setCell (World.setCell (World.setCell v10 ⟨gz, 0, none⟩ (.bool s6)) ⟨gz, 1, none⟩ (.slice A6 n6 c6)) ⟨gz, 2, none⟩ (.bool t6)) ⟨gz, 3, none⟩ (.slice B6 m6 d6) = z := ⟨_, rfl⟩
          rw [hV]
          have HX_11 := Lib.hid (show Below yw3.heap.size yw3 v11 by rw [← hV]; exact below_box4 HX_10.out (HG_z.out) _ _ _ _)
          have R_11 := Lib.hid (show PF v11 s6 A6 n6 c6 t6 B6 m6 d6 (adP r2 1 (-my) mv) (adQ r2 1 (-my) mv) by rw [← hV]; exact PF.box4 (R_10.out) (HP_z_10.out) (.bool s6) (.slice A6 n6 c6) (.bool t6) (.slice B6 m6 d6))
          have HP_z_11 := Lib.hid (show P4 31 v11 gz (.bool s6) (.slice A6 n6 c6) (.bool t6) (.slice B6 m6 d6) by rw [← hV]; exact HP_z_10.out.all (.bool s6) (.slice A6 n6 c6) (.bool t6) (.slice B6 m6 d6))
          refine hK.out _ _ (⟨(HR3.out.new HX_11.out).cells.1, (HR3.out.new HX_11.out).cells.2, (HQ12.out.new HX_11.out).cells.1.1, (HQ12.out.new HX_11.out).cells.1.2.1, (HQ12.out.new HX_11.out).cells.1.2.2.1, (HQ12.out.new HX_11.out).cells.1.2.2.2, (HQ12.out.new HX_11.out).cells.2.1, (HQ12.out.new HX_11.out).cells.2.2.1, (HQ12.out.new HX_11.out).cells.2.2.2.1, (HQ12.out.new HX_11.out).cells.2.2.2.2, HX_11.out⟩) (fun hHeld2 => ?_)
          clear hHeld
          have hHeld := hHeld2
          clear hHeld2 hK K hV z9 z0 z1 z2 z3 y0 y1 y2 y3 HX_10 R_10 HP_z_10
          try simp only [Act.put, List.getElem_toArray, List.getElem_cons_zero, List.getElem_cons_succ, List.setIfInBounds_toArray, List.set_cons_zero, List.set_cons_succ]
          refine wpAnyH_take (i := 11) (v := ?_) rfl (by as_aux_lemma => kernel_rfl) (by as_aux_lemma => kernel_rfl) (by as_aux_lemma => kernel_rfl) (fun _ _ _ h => h) (Or.inl ⟨(by as_aux_lemma => kernel_rfl), ?_⟩) (by assumption) ?_
          rotate_left
          · intro w hSw
            (try dsimp only at hSw)
            go_simp
            all_goals (with_reducible rfl)
          try simp only [Act.put, List.getElem_toArray, List.getElem_cons_zero, List.getElem_cons_succ, List.setIfInBounds_toArray, List.set_cons_zero, List.set_cons_succ]
          refine wpAnyH_done (by as_aux_lemma => kernel_rfl) ?_ _
          clear hHeld
          go_wp2_with fail
          go_meet
          exact ⟨gz, s6, A6, n6, c6, t6, B6, m6, d6, rfl, rfl, HP_z_11.out, R_11.out, HX_11.out⟩
        case rest =>
          obtain ⟨gy, s6, A6, n6, c6, t6, B6, m6, d6, rfl, rfl, hq, h6, hbx⟩ := hcut
          obtain ⟨yw4, rfl⟩ := nm_world hbx
          have HQy := Lib.hid hq
          have Hy := Lib.hid h6
          have HQx4 := Lib.hid (HQx.out.new hbx)
          have Hx4 := Lib.hid (Hx.out.new hbx)
          have HQh4 := Lib.hid (HQh3.out.new hbx)
          have Hh4 := Lib.hid (Hh3.out.new hbx)
          have HW13 := Lib.hid (bt HW12.out hbx)
          clear hq h6 hbx HR3 HQ12 HQx Hx HQh3 Hh3 G5c HW12 HX13 HRD HWF
          have HAx := Lib.hid (show 0 < adQ r1 1 (-mx) mq ∧ (adP r1 1 (-mx) mq).natAbs < lim ∧ (adQ r1 1 (-mx) mq).natAbs < lim from ⟨adQ_pos (by decide) HLM.out.1.1, ad_lims.1, ad_lims.2⟩)
          have HAy := Lib.hid (show 0 < adQ r2 1 (-my) mv ∧ (adP r2 1 (-my) mv).natAbs < lim ∧ (adQ r2 1 (-my) mv).natAbs < lim from ⟨adQ_pos (by decide) HLM.out.2.1, ad_lims.1, ad_lims.2⟩)
          obtain ⟨xp, hxp⟩ : ∃ z, adP r1 1 (-mx) mq = z := ⟨_, rfl⟩
          obtain ⟨xq, hxq⟩ : ∃ z, adQ r1 1 (-mx) mq = z := ⟨_, rfl⟩
          obtain ⟨yp, hyp⟩ : ∃ z, adP r2 1 (-my) mv = z := ⟨_, rfl⟩
          obtain ⟨yq, hyq⟩ : ∃ z, adQ r2 1 (-my) mv = z := ⟨_, rfl⟩
          rw [hxp, hxq] at Hx4 HH1 HAx
          rw [hyp, hyq] at Hy HH2 HAy
          clear hxp hxq hyp hyq
          obtain ⟨k1, hk1⟩ : ∃ z, cmpI (xp * 2) (-1 * xq) = z := ⟨_, rfl⟩
          obtain ⟨k2, hk2⟩ : ∃ z, cmpI (yp * 2) (-1 * yq) = z := ⟨_, rfl⟩
          have HK1 := Lib.hid hk1
          have HK2 := Lib.hid hk2
          have k10 : 0 ≤ k1 := by rw [← hk1]; exact HH1.out.2.2
          have k20 : 0 ≤ k2 := by rw [← hk2]; exact HH2.out.2.2
          have HKK := Lib.hid (And.intro k10 k20)
          clear hk1 hk2 k10 k20
          go_wp2_with fail
          refine (fof_any (-1) 2 yw4 (by decide) (by decide)).mono ?_
          rw [show mkP (-1) 2 = -1 from rfl, show mkQ (-1) 2 = 2 from rfl, show mkC 2 = 0 from rfl]
          rintro e u5 ⟨s7, A7, n7, c7, t7, B7, m7, d7, rfl, h7, hb⟩
          obtain ⟨yw5, hv5⟩ : ∃ z, u5.alloc (.cells #[.bool s7, .slice A7 n7 c7, .bool t7, .slice B7 m7 d7] 31) = z := ⟨_, rfl⟩
          have HNx := Lib.hid (show Below u5.heap.size u5 yw5 by rw [← hv5]; exact (Below.refl _ _).alloc (Nat.le_refl _) _)
          have HN := Lib.hid (bt hb HNx.out)
          have HQl := Lib.hid (show P4 31 yw5 u5.heap.size (.bool s7) (.slice A7 n7 c7) (.bool t7) (.slice B7 m7 d7) by rw [← hv5]; exact P4.lit _ _ _ _ _ _)
          obtain ⟨gl, hgl⟩ : ∃ g, u5.heap.size = g := ⟨_, rfl⟩
          rw [hgl] at HQl
          have Hl := Lib.hid (h7.new HNx.out)
          have HQx5 := Lib.hid (HQx4.out.new HN.out)
          have Hx5 := Lib.hid (Hx4.out.new HN.out)
          have HQy5 := Lib.hid (HQy.out.new HN.out)
          have Hy5 := Lib.hid (Hy.out.new HN.out)
          have HQh5 := Lib.hid (HQh4.out.new HN.out)
          have Hh5 := Lib.hid (Hh4.out.new HN.out)
          have HW14 := Lib.hid (bt HW13.out HN.out)
          clear h7 hb HN HNx HQx4 Hx4 HQy Hy HQh4 Hh4 HW13
          obtain ⟨a0, a1, a2, a3⟩ := HQx5.out.cells
          obtain ⟨b0, b1, b2, b3⟩ := HQh5.out.cells
          go_wp2_with fail
          clear hv5 hgl
          refine (fcompare_any xp xq 1 2 s3 t3 s0 t0 A3 B3 A0 B0 n3 c3 m3 d3 n0 c0 m0 d0 yw5 Hx5.out Hh5.out HAx.out.1 (by decide) HAx.out.2.1 HAx.out.2.2 one_lim (sm_lim (by decide))).mono ?_
          rw [HH1.out.2.1]
          rintro e z0 ⟨rfl, hb⟩
          have HN := Lib.hid hb
          clear hb a0 a1 a2 a3 b0 b1 b2 b3
          have HQx_0 := Lib.hid (HQx5.out.new HN.out)
          have Hx_0 := Lib.hid (Hx5.out.new HN.out)
          have HQy_0 := Lib.hid (HQy5.out.new HN.out)
          have Hy_0 := Lib.hid (Hy5.out.new HN.out)
          have HQh_0 := Lib.hid (HQh5.out.new HN.out)
          have Hh_0 := Lib.hid (Hh5.out.new HN.out)
          have HQl_0 := Lib.hid (HQl.out.new HN.out)
          have Hl_0 := Lib.hid (Hl.out.new HN.out)
          have HWz0 := Lib.hid (bt HW14.out HN.out)
          clear HQx5 Hx5 HQy5 Hy5 HQh5 Hh5 HQl Hl HW14 HN
          obtain ⟨a0, a1, a2, a3⟩ := HQy_0.out.cells
          obtain ⟨b0, b1, b2, b3⟩ := HQh_0.out.cells
          go_wp2_with fail
          refine (fcompare_any yp yq 1 2 s6 t6 s0 t0 A6 B6 A0 B0 n6 c6 m6 d6 n0 c0 m0 d0 z0 Hy_0.out Hh_0.out HAy.out.1 (by decide) HAy.out.2.1 HAy.out.2.2 one_lim (sm_lim (by decide))).mono ?_
          rw [HH2.out.2.1]
          rintro e z1 ⟨rfl, hb⟩
          have HN := Lib.hid hb
          clear hb a0 a1 a2 a3 b0 b1 b2 b3
          have HQx_1 := Lib.hid (HQx_0.out.new HN.out)
          have Hx_1 := Lib.hid (Hx_0.out.new HN.out)
          have HQy_1 := Lib.hid (HQy_0.out.new HN.out)
          have Hy_1 := Lib.hid (Hy_0.out.new HN.out)
          have HQh_1 := Lib.hid (HQh_0.out.new HN.out)
          have Hh_1 := Lib.hid (Hh_0.out.new HN.out)
          have HQl_1 := Lib.hid (HQl_0.out.new HN.out)
          have Hl_1 := Lib.hid (Hl_0.out.new HN.out)
          have HWz1 := Lib.hid (bt HWz0.out HN.out)
          clear HQx_0 Hx_0 HQy_0 Hy_0 HQh_0 Hh_0 HQl_0 Hl_0 HWz0 HN
          obtain ⟨a0, a1, a2, a3⟩ := HQx_1.out.cells
          obtain ⟨b0, b1, b2, b3⟩ := HQl_1.out.cells
          go_wp2_with fail
          refine (fcompare_any xp xq (-1) 2 s3 t3 s7 t7 A3 B3 A7 B7 n3 c3 m3 d3 n7 c7 m7 d7 z1 Hx_1.out Hl_1.out HAx.out.1 (by decide) HAx.out.2.1 HAx.out.2.2 (sm_lim (by decide)) (sm_lim (by decide))).mono ?_
          rw [HK1.out]
          rintro e z2 ⟨rfl, hb⟩
          have HN := Lib.hid hb
          clear hb a0 a1 a2 a3 b0 b1 b2 b3
          have hpos2 := HKK.out.1
          have HQx_2 := Lib.hid (HQx_1.out.new HN.out)
          have Hx_2 := Lib.hid (Hx_1.out.new HN.out)
          have HQy_2 := Lib.hid (HQy_1.out.new HN.out)
          have Hy_2 := Lib.hid (Hy_1.out.new HN.out)
          have HQh_2 := Lib.hid (HQh_1.out.new HN.out)
          have Hh_2 := Lib.hid (Hh_1.out.new HN.out)
          have HQl_2 := Lib.hid (HQl_1.out.new HN.out)
          have Hl_2 := Lib.hid (Hl_1.out.new HN.out)
          have HWz2 := Lib.hid (bt HWz1.out HN.out)
          clear HQx_1 Hx_1 HQy_1 Hy_1 HQh_1 Hh_1 HQl_1 Hl_1 HWz1 HN
          obtain ⟨a0, a1, a2, a3⟩ := HQy_2.out.cells
          obtain ⟨b0, b1, b2, b3⟩ := HQl_2.out.cells
          go_wp2_with fail
          refine (fcompare_any yp yq (-1) 2 s6 t6 s7 t7 A6 B6 A7 B7 n6 c6 m6 d6 n7 c7 m7 d7 z2 Hy_2.out Hl_2.out HAy.out.1 (by decide) HAy.out.2.1 HAy.out.2.2 (sm_lim (by decide)) (sm_lim (by decide))).mono ?_
          rw [HK2.out]
          rintro e z3 ⟨rfl, hb⟩
          have HN := Lib.hid hb
          clear hb a0 a1 a2 a3 b0 b1 b2 b3
          have hpos3 := HKK.out.2
          have HQx_3 := Lib.hid (HQx_2.out.new HN.out)
          have Hx_3 := Lib.hid (Hx_2.out.new HN.out)
          have HQy_3 := Lib.hid (HQy_2.out.new HN.out)
          have Hy_3 := Lib.hid (Hy_2.out.new HN.out)
          have HQh_3 := Lib.hid (HQh_2.out.new HN.out)
          have Hh_3 := Lib.hid (Hh_2.out.new HN.out)
          have HQl_3 := Lib.hid (HQl_2.out.new HN.out)
          have Hl_3 := Lib.hid (Hl_2.out.new HN.out)
          have HWz3 := Lib.hid (bt HWz2.out HN.out)
          clear HQx_2 Hx_2 HQy_2 Hy_2 HQh_2 Hh_2 HQl_2 Hl_2 HWz2 HN
          go_wp2_with fail
          refine (plives_any z3).mono ?_
          rintro e z9 ⟨rfl, hb⟩
          have HWf := Lib.hid (bt HWz3.out hb)
          clear hb
          go_wp2_with fail
          go_ret
          exact ⟨rfl, HWf.out⟩
end Go.Proofs.Ytfmccalkfagafaa
