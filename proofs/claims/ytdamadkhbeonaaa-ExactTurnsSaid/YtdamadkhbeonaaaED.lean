/- Contracts: view. Conditions: as each statement has them. -/
import Derived.Test.YtdamadkhbeonaaaEA
namespace Go.Proofs.Ytdamadkhbeonaaa
open Go.RowKit
attribute [local go_sem ↓] Go.wp_at_zero Go.wp_at_succ
set_option linter.unusedVariables false
set_option linter.unusedSimpArgs false
theorem nk_lim {k x : Int} (h : Nk k x) (hk : k ≤ 1606938044258990275541962092341162602522202993782792835301376 := by decide) : x.natAbs < lim := by
 refine B2.lim (k := 201) (Nat.lt_of_le_of_lt (m := 1606938044258990275541962092341162602522202993782792835301376) (by have := h.1; have := h.2; omega) ?_) (by decide)
 show (1606938044258990275541962092341162602522202993782792835301376 : Nat) < 2 ^ 201
 decide
/-- Two integers of the program. -/
def RetPP (x y : Int) (w : World) (e : Ending) (w' : World) : Prop := ∃ s A n c s' A' n' c', e = .returned (.agg #[.bool s, .slice A n c, .bool s', .slice A' n' c']) ∧ PI w' s A n c x ∧ PI w' s' A' n' c' y ∧ Below w.heap.size w w'
theorem W2_size : (Try.prog.info? 52).map (·.size) = some 4 := by kernel_rfl
set_option maxRecDepth 100000 in
set_option maxHeartbeats 6400000 in
theorem view_any (ax ay bx by' px py : Int) (w : World) (ha : Nk 1073741824 ax ∧ Nk 1073741824 ay) (hb : Nk 1073741824 bx ∧ Nk 1073741824 by') (hp : Nk 1073741824 px ∧ Nk 1073741824 py) :
  Calls Try.prog 26 #[.agg #[.int .i64 ax, .int .i64 ay], .agg #[.int .i64 bx, .int .i64 by'], .agg #[.int .i64 px, .int .i64 py]] w (RetPP (ahV ax ay bx by' px py) (lfV ax ay bx by' px py) w) := by
 have HD := hJ (show (Nk 2147483648 (ax - px) ∧ Nk 2147483648 (ay - py)) ∧ (Nk 2147483648 (bx - px) ∧ Nk 2147483648 (by' - py)) from ⟨⟨nk_diff ha.1 hp.1, nk_diff ha.2 hp.2⟩, nk_diff hb.1 hp.1, nk_diff hb.2 hp.2⟩)
 have HM := hJ (show (Nk 4611686018427387904 ((ax - px) * (bx - px)) ∧ Nk 4611686018427387904 ((ay - py) * (by' - py))) ∧ (Nk 4611686018427387904 ((ax - px) * (by' - py)) ∧ Nk 4611686018427387904 ((ay - py) * (bx - px))) from ⟨⟨nk_mul HD.out.1.1 HD.out.2.1, nk_mul HD.out.1.2 HD.out.2.2⟩, nk_mul HD.out.1.1 HD.out.2.2, nk_mul HD.out.1.2 HD.out.2.1⟩)
 clear ha hb hp
 obtain ⟨x1, hx1⟩ := nmz ((((w.alloc (.cells #[.int .i64 ax, .int .i64 ay] 25)).alloc (.cells #[.int .i64 bx, .int .i64 by'] 25)).alloc (.cells #[.int .i64 px, .int .i64 py] 25)).alloc (.cells #[.bool false, .slice none 0 0, .bool false, .slice none 0 0] 52))
 have HB1 := hJ (show Below w.heap.size w x1 by rw [← hx1]; exact (((((Below.refl _ _).alloc (Nat.le_refl _) _).alloc (by simp only [World.size_alloc]; omega) _).alloc (by simp only [World.size_alloc]; omega) _).alloc (by simp only [World.size_alloc]; omega) _))
 have HQ1x0 := hJ (show BX 25 x1 w.heap.size #[.int .i64 ax, .int .i64 ay] by rw [← hx1]; exact ((((BX.at rfl).alloc _).alloc _).alloc _))
 have HG1x0 := hJ (show w.heap.size ≤ w.heap.size by omega)
 have HL1x0 := hJ (show w.heap.size < x1.heap.size from HQ1x0.out.lt)
 have HQ1x1 := hJ (show BX 25 x1 (w.heap.size + 1) #[.int .i64 bx, .int .i64 by'] by rw [← hx1]; exact (((BX.at (by simp only [World.size_alloc])).alloc _).alloc _))
 have HG1x1 := hJ (show w.heap.size ≤ w.heap.size + 1 by omega)
 have HL1x1 := hJ (show w.heap.size + 1 < x1.heap.size from HQ1x1.out.lt)
 have HQ1x2 := hJ (show BX 25 x1 (w.heap.size + 2) #[.int .i64 px, .int .i64 py] by rw [← hx1]; exact ((BX.at (by simp only [World.size_alloc])).alloc _))
 have HG1x2 := hJ (show w.heap.size ≤ w.heap.size + 2 by omega)
 have HL1x2 := hJ (show w.heap.size + 2 < x1.heap.size from HQ1x2.out.lt)
 have HQ1x3 := hJ (show BX 52 x1 (w.heap.size + 3) #[.bool false, .slice none 0 0, .bool false, .slice none 0 0] by rw [← hx1]; exact (BX.at (by simp only [World.size_alloc])))
 have HG1x3 := hJ (show w.heap.size ≤ w.heap.size + 3 by omega)
 have HL1x3 := hJ (show w.heap.size + 3 < x1.heap.size from HQ1x3.out.lt)
 have HS2 : Hid (∀ w', Below x1.heap.size x1 w' → (fun w' : World => w'.cell? ⟨w.heap.size + 2, 0, none⟩ = some (.int .i64 px) ∧ w'.cell? ⟨w.heap.size + 2, 1, none⟩ = some (.int .i64 py) ∧ w'.cell? ⟨w.heap.size, 0, none⟩ = some (.int .i64 ax) ∧ w'.cell? ⟨w.heap.size, 1, none⟩ = some (.int .i64 ay) ∧ w'.cell? ⟨w.heap.size + 1, 0, none⟩ = some (.int .i64 bx) ∧ w'.cell? ⟨w.heap.size + 1, 1, none⟩ = some (.int .i64 by') ∧ Below x1.heap.size x1 w') w') := hJ (fun w' hb => ⟨(BX.new HQ1x2.out hb).cell 0 rfl, (BX.new HQ1x2.out hb).cell 1 rfl, (BX.new HQ1x0.out hb).cell 0 rfl, (BX.new HQ1x0.out hb).cell 1 rfl, (BX.new HQ1x1.out hb).cell 0 rfl, (BX.new HQ1x1.out hb).cell 1 rfl, hb⟩)
 go_enter Try.func26, Try.ntmps26
 go_wp2_with fail
 clear hx1
 obtain ⟨v2, hv2⟩ := nmz (World.drew x1)
 have HX2 := hJ (show Below x1.heap.size x1 v2 by rw [← hv2]; exact (Below.refl _ _).drew)
 refine wp_region_held_drew (S := (fun w' : World => w'.cell? ⟨w.heap.size + 2, 0, none⟩ = some (.int .i64 px) ∧ w'.cell? ⟨w.heap.size + 2, 1, none⟩ = some (.int .i64 py) ∧ w'.cell? ⟨w.heap.size, 0, none⟩ = some (.int .i64 ax) ∧ w'.cell? ⟨w.heap.size, 1, none⟩ = some (.int .i64 ay) ∧ w'.cell? ⟨w.heap.size + 1, 0, none⟩ = some (.int .i64 bx) ∧ w'.cell? ⟨w.heap.size + 1, 1, none⟩ = some (.int .i64 by') ∧ Below x1.heap.size x1 w')) (by kernel_rfl) ?_ (fun hHeld => ?_)
 ·rw [hv2]
  exact HS2.out _ HX2.out
 rw [hv2] at hHeld ⊢
 clear hv2
 refine tq 0 ?_
 try simp only [PT]
 refine tq 1 ?_
 try simp only [PT]
 refine tq 3 ?_
 try simp only [PT]
 refine tq 4 ?_
 try simp only [PT]
 refine wpAnyH_name (fun F hF a0 ha0 L0 hL0 => ?_)
 have J1_2_5_6_7 : ∀ (g1_6 : Nat) (g1_7 : Nat) (v : World), Hid (Below x1.heap.size x1 v) → Hid (BX 25 v g1_6 #[.int .i64 0, .int .i64 0]) → Hid (x1.heap.size ≤ g1_6) → Hid (BX 25 v g1_7 #[.int .i64 0, .int .i64 0]) → Hid (x1.heap.size ≤ g1_7) → Hid (g1_6 ≠ g1_7) → F 2 (Array.setIfInBounds (Array.setIfInBounds (Array.setIfInBounds (Array.setIfInBounds L0 2 true) 5 true) 6 true) 7 true) (Act.put (Act.put (Act.put (Act.put a0 (some 15) (.agg #[.int .i64 (ax - px), .int .i64 (ay - py)])) (some 18) (.agg #[.int .i64 (bx - px), .int .i64 (by' - py)])) (some 7) (.pointer (some ⟨g1_6, 0, none⟩))) (some 8) (.pointer (some ⟨g1_7, 0, none⟩))) v := by
  intro g1_6 g1_7 v HXj HPg1_6j HGg1_6j HPg1_7j HGg1_7j HNg1_6g1_7j
  subst hF ha0 hL0
  simp only [PT] at  ⊢
  have hHeld := HS2.out _ HXj.out
  refine wpAnyH_ready (rs := [8]) (by kernel_rfl) (by simp) ?_
  refine .cons rfl (fun K hK => ?_) .nil
  have z3_0 := HPg1_6j.out.cell 0 rfl
  have y3_0 := HPg1_6j.out.frozen 0
  have z3_1 := HPg1_6j.out.cell 1 rfl
  have y3_1 := HPg1_6j.out.frozen 1
  have z3 := HPg1_6j.out.lt
  go_simp
  obtain ⟨v3, hV⟩ := nmz (World.setCell (World.setCell v ⟨g1_6, 0, none⟩ (.int .i64 (ax - px))) ⟨g1_6, 1, none⟩ (.int .i64 (ay - py)))
  rw [hV]
  have HE3 := hJ (show sto v g1_6 0 [.int .i64 (ax - px), .int .i64 (ay - py)] = v3 from hV)
  clear hV z3 z3_0 y3_0 z3_1 y3_1
  have HX3 := hJ (show Below x1.heap.size x1 v3 by rw [← HE3.out]; exact below_sto HXj.out HGg1_6j.out _ _)
  have HP3g1_7 := hJ (show BX 25 v3 g1_7 #[.int .i64 0, .int .i64 0] by rw [← HE3.out]; exact BX.far HPg1_7j.out HNg1_6g1_7j.out.symm _ _)
  have HP3g1_6 := hJ (show BX 25 v3 g1_6 #[.int .i64 (ax - px), .int .i64 (ay - py)] by rw [← HE3.out]; exact BX.put HPg1_6j.out _ _)
  clear hHeld
  refine hK.out _ _ (HS2.out _ HX3.out) (fun hHeld => ?_)
  clear hK K
  try simp only [PT]
  refine wpAnyH_ready (rs := [9]) (by kernel_rfl) (by simp) ?_
  refine .cons rfl (fun K hK => ?_) .nil
  have z4_0 := HP3g1_7.out.cell 0 rfl
  have y4_0 := HP3g1_7.out.frozen 0
  have z4_1 := HP3g1_7.out.cell 1 rfl
  have y4_1 := HP3g1_7.out.frozen 1
  have z4 := HP3g1_7.out.lt
  go_simp
  obtain ⟨v4, hV⟩ := nmz (World.setCell (World.setCell v3 ⟨g1_7, 0, none⟩ (.int .i64 (bx - px))) ⟨g1_7, 1, none⟩ (.int .i64 (by' - py)))
  rw [hV]
  have HE4 := hJ (show sto v3 g1_7 0 [.int .i64 (bx - px), .int .i64 (by' - py)] = v4 from hV)
  clear hV z4 z4_0 y4_0 z4_1 y4_1
  have HX4 := hJ (show Below x1.heap.size x1 v4 by rw [← HE4.out]; exact below_sto HX3.out HGg1_7j.out _ _)
  have HP4g1_6 := hJ (show BX 25 v4 g1_6 #[.int .i64 (ax - px), .int .i64 (ay - py)] by rw [← HE4.out]; exact BX.far HP3g1_6.out HNg1_6g1_7j.out _ _)
  have HP4g1_7 := hJ (show BX 25 v4 g1_7 #[.int .i64 (bx - px), .int .i64 (by' - py)] by rw [← HE4.out]; exact BX.put HP3g1_7.out _ _)
  clear hHeld
  refine hK.out _ _ (HS2.out _ HX4.out) (fun hHeld => ?_)
  clear hK K
  try simp only [PT]
  refine wpAnyH_done (by kernel_rfl) ?_ _
  clear hHeld
  have HL5 := hJ (show g1_6 < v4.heap.size from HP4g1_6.out.lt)
  have HL6 := hJ (show g1_7 < v4.heap.size from HP4g1_7.out.lt)
  have HIN13 := hJ (in_lim (nk_lim (nk_add HM.out.1.1 HM.out.1.2)))
  have HS7 : Hid (∀ w', Below v4.heap.size v4 w' → (fun w' : World => w'.cell? ⟨g1_6, 0, none⟩ = some (.int .i64 (ax - px)) ∧ w'.cell? ⟨g1_7, 0, none⟩ = some (.int .i64 (bx - px)) ∧ w'.cell? ⟨g1_6, 1, none⟩ = some (.int .i64 (ay - py)) ∧ w'.cell? ⟨g1_7, 1, none⟩ = some (.int .i64 (by' - py)) ∧ Below v4.heap.size v4 w') w') := hJ (fun w' hb => ⟨(BX.new HP4g1_6.out hb).cell 0 rfl, (BX.new HP4g1_7.out hb).cell 0 rfl, (BX.new HP4g1_6.out hb).cell 1 rfl, (BX.new HP4g1_7.out hb).cell 1 rfl, hb⟩)
  go_wp2_with fail
  obtain ⟨v7, hv7⟩ := nmz (World.drew v4)
  have HX7 := hJ (show Below v4.heap.size v4 v7 by rw [← hv7]; exact (Below.refl _ _).drew)
  refine wp_region_held_drew (S := (fun w' : World => w'.cell? ⟨g1_6, 0, none⟩ = some (.int .i64 (ax - px)) ∧ w'.cell? ⟨g1_7, 0, none⟩ = some (.int .i64 (bx - px)) ∧ w'.cell? ⟨g1_6, 1, none⟩ = some (.int .i64 (ay - py)) ∧ w'.cell? ⟨g1_7, 1, none⟩ = some (.int .i64 (by' - py)) ∧ Below v4.heap.size v4 w')) (by kernel_rfl) ?_ (fun hHeld => ?_)
  ·rw [hv7]
   exact HS7.out _ HX7.out
  rw [hv7] at hHeld ⊢
  clear hv7
  refine tq 0 ?_
  try simp only [PT]
  refine tq 1 ?_
  try simp only [PT]
  refine tq 2 ?_
  try simp only [PT]
  refine tq 3 ?_
  try simp only [PT]
  refine tk 4 (.int .i64 ((ax - px) * (bx - px))) ?_ ?_
  ·intro w hSw
   (try dsimp only at hSw)
   go_simp
   rw [i6_wrap (nk_i6 HM.out.1.1 (by decide))]
  try simp only [PT]
  refine tq 6 ?_
  try simp only [PT]
  refine tq 7 ?_
  try simp only [PT]
  refine tq 8 ?_
  try simp only [PT]
  refine tq 9 ?_
  try simp only [PT]
  refine tk 10 (.int .i64 ((ay - py) * (by' - py))) ?_ ?_
  ·intro w hSw
   (try dsimp only at hSw)
   go_simp
   rw [i6_wrap (nk_i6 HM.out.1.2 (by decide))]
  try simp only [PT]
  refine wpAnyH_name (fun F hF a0 ha0 L0 hL0 => ?_)
  have J2_5_11_12_16 : ∀ (s11 : Bool) (A11 : Option Addr) (n11 : Nat) (c11 : Nat) (s12 : Bool) (A12 : Option Addr) (n12 : Nat) (c12 : Nat) (s14 : Bool) (A14 : Option Addr) (n14 : Nat) (c14 : Nat) (g2_16 : Nat) (v : World), Hid (Below v4.heap.size v4 v) → Hid (PI v s11 A11 n11 c11 ((ax - px) * (bx - px))) → Hid (PI v s12 A12 n12 c12 ((ay - py) * (by' - py))) → Hid (PI v s14 A14 n14 c14 (((ax - px) * (bx - px)) + ((ay - py) * (by' - py)))) → Hid (BX 48 v g2_16 #[.bool false, .slice none 0 0]) → Hid (v4.heap.size ≤ g2_16) → F 2 (Array.setIfInBounds (Array.setIfInBounds (Array.setIfInBounds (Array.setIfInBounds (Array.setIfInBounds (Array.setIfInBounds (Array.setIfInBounds L0 5 true) 11 true) 12 true) 16 true) 13 true) 14 true) 15 true) (Act.put (Act.put (Act.put (Act.put (Act.put (Act.put (Act.put a0 (some 25) (.agg #[.bool s11, .slice A11 n11 c11])) (some 31) (.agg #[.bool s12, .slice A12 n12 c12])) (some 32) (.tuple #[.agg #[.bool s14, .slice A14 n14 c14], .int .i64 0])) (some 9) (.pointer (some ⟨g2_16, 0, none⟩))) (some 19) (.tuple #[.agg #[.bool s14, .slice A14 n14 c14], .int .i64 0])) (some 33) (.agg #[.bool s14, .slice A14 n14 c14])) (some 34) (.int .i64 0)) v := by
   intro s11 A11 n11 c11 s12 A12 n12 c12 s14 A14 n14 c14 g2_16 v HXj HZ5hr11j HZ11hr12j HZ12hr14j HPg2_16j HGg2_16j
   subst hF ha0 hL0
   simp only [PT] at  ⊢
   have hHeld := HS7.out _ HXj.out
   refine wpAnyH_ready (rs := [17]) (by kernel_rfl) (by simp) ?_
   refine .cons rfl (fun K hK => ?_) .nil
   have z8_0 := HPg2_16j.out.cell 0 rfl
   have y8_0 := HPg2_16j.out.frozen 0
   have z8_1 := HPg2_16j.out.cell 1 rfl
   have y8_1 := HPg2_16j.out.frozen 1
   have z8 := HPg2_16j.out.lt
   go_simp
   obtain ⟨v8, hV⟩ := nmz (World.setCell (World.setCell v ⟨g2_16, 0, none⟩ (.bool s14)) ⟨g2_16, 1, none⟩ (.slice A14 n14 c14))
   rw [hV]
   have HE8 := hJ (show sto v g2_16 0 [.bool s14, .slice A14 n14 c14] = v8 from hV)
   clear hV z8 z8_0 y8_0 z8_1 y8_1
   have HX8 := hJ (show Below v4.heap.size v4 v8 by rw [← HE8.out]; exact below_sto HXj.out HGg2_16j.out _ _)
   have HZ8_0 := hJ (show PI v8 s11 A11 n11 c11 ((ax - px) * (bx - px)) by rw [← HE8.out]; exact PIo.sto HZ5hr11j.out HPg2_16j.out rfl _ _)
   have HZ8_1 := hJ (show PI v8 s12 A12 n12 c12 ((ay - py) * (by' - py)) by rw [← HE8.out]; exact PIo.sto HZ11hr12j.out HPg2_16j.out rfl _ _)
   have HZ8_2 := hJ (show PI v8 s14 A14 n14 c14 (((ax - px) * (bx - px)) + ((ay - py) * (by' - py))) by rw [← HE8.out]; exact PIo.sto HZ12hr14j.out HPg2_16j.out rfl _ _)
   have HP8g2_16 := hJ (show BX 48 v8 g2_16 #[.bool s14, .slice A14 n14 c14] by rw [← HE8.out]; exact BX.put HPg2_16j.out _ _)
   clear hHeld
   refine hK.out _ _ (HS7.out _ HX8.out) (fun hHeld => ?_)
   clear hK K
   try simp only [PT]
   refine tq 18 ?_
   try simp only [PT]
   refine wpAnyH_done (by kernel_rfl) ?_ _
   clear hHeld
   have HL9 := hJ (show g2_16 < v8.heap.size from HP8g2_16.out.lt)
   have HIN17 := hJ (in_lim (nk_lim (nk_sub HM.out.2.1 HM.out.2.2)))
   have HP4g1_6w3 := hJ (BX.new HP4g1_6.out HX8.out)
   have HP4g1_7w3 := hJ (BX.new HP4g1_7.out HX8.out)
   have HS10 : Hid (∀ w', Below v8.heap.size v8 w' → (fun w' : World => w'.cell? ⟨g1_6, 0, none⟩ = some (.int .i64 (ax - px)) ∧ w'.cell? ⟨g1_7, 1, none⟩ = some (.int .i64 (by' - py)) ∧ w'.cell? ⟨g1_6, 1, none⟩ = some (.int .i64 (ay - py)) ∧ w'.cell? ⟨g1_7, 0, none⟩ = some (.int .i64 (bx - px)) ∧ Below v8.heap.size v8 w') w') := hJ (fun w' hb => ⟨(BX.new HP4g1_6w3.out hb).cell 0 rfl, (BX.new HP4g1_7w3.out hb).cell 1 rfl, (BX.new HP4g1_6w3.out hb).cell 1 rfl, (BX.new HP4g1_7w3.out hb).cell 0 rfl, hb⟩)
   go_wp2_with fail
   obtain ⟨v10, hv10⟩ := nmz (World.drew v8)
   have HX10 := hJ (show Below v8.heap.size v8 v10 by rw [← hv10]; exact (Below.refl _ _).drew)
   refine wp_region_held_drew (S := (fun w' : World => w'.cell? ⟨g1_6, 0, none⟩ = some (.int .i64 (ax - px)) ∧ w'.cell? ⟨g1_7, 1, none⟩ = some (.int .i64 (by' - py)) ∧ w'.cell? ⟨g1_6, 1, none⟩ = some (.int .i64 (ay - py)) ∧ w'.cell? ⟨g1_7, 0, none⟩ = some (.int .i64 (bx - px)) ∧ Below v8.heap.size v8 w')) (by kernel_rfl) ?_ (fun hHeld => ?_)
   ·rw [hv10]
    exact HS10.out _ HX10.out
   rw [hv10] at hHeld ⊢
   clear hv10
   refine tq 0 ?_
   try simp only [PT]
   refine tq 1 ?_
   try simp only [PT]
   refine tq 2 ?_
   try simp only [PT]
   refine tq 3 ?_
   try simp only [PT]
   refine tk 4 (.int .i64 ((ax - px) * (by' - py))) ?_ ?_
   ·intro w hSw
    (try dsimp only at hSw)
    go_simp
    rw [i6_wrap (nk_i6 HM.out.2.1 (by decide))]
   try simp only [PT]
   refine tq 6 ?_
   try simp only [PT]
   refine tq 7 ?_
   try simp only [PT]
   refine tq 8 ?_
   try simp only [PT]
   refine tq 9 ?_
   try simp only [PT]
   refine tk 10 (.int .i64 ((ay - py) * (bx - px))) ?_ ?_
   ·intro w hSw
    (try dsimp only at hSw)
    go_simp
    rw [i6_wrap (nk_i6 HM.out.2.2 (by decide))]
   try simp only [PT]
   refine wpAnyH_name (fun F hF a0 ha0 L0 hL0 => ?_)
   have J3_5_11_12_16 : ∀ (s15 : Bool) (A15 : Option Addr) (n15 : Nat) (c15 : Nat) (s16 : Bool) (A16 : Option Addr) (n16 : Nat) (c16 : Nat) (s18 : Bool) (A18 : Option Addr) (n18 : Nat) (c18 : Nat) (g3_16 : Nat) (v : World), Hid (Below v8.heap.size v8 v) → Hid (PI v s15 A15 n15 c15 ((ax - px) * (by' - py))) → Hid (PI v s16 A16 n16 c16 ((ay - py) * (bx - px))) → Hid (PI v s18 A18 n18 c18 (((ax - px) * (by' - py)) - ((ay - py) * (bx - px)))) → Hid (BX 48 v g3_16 #[.bool false, .slice none 0 0]) → Hid (v8.heap.size ≤ g3_16) → F 2 (Array.setIfInBounds (Array.setIfInBounds (Array.setIfInBounds (Array.setIfInBounds (Array.setIfInBounds (Array.setIfInBounds (Array.setIfInBounds L0 5 true) 11 true) 12 true) 16 true) 13 true) 14 true) 15 true) (Act.put (Act.put (Act.put (Act.put (Act.put (Act.put (Act.put a0 (some 41) (.agg #[.bool s15, .slice A15 n15 c15])) (some 47) (.agg #[.bool s16, .slice A16 n16 c16])) (some 48) (.tuple #[.agg #[.bool s18, .slice A18 n18 c18], .int .i64 0])) (some 11) (.pointer (some ⟨g3_16, 0, none⟩))) (some 35) (.tuple #[.agg #[.bool s18, .slice A18 n18 c18], .int .i64 0])) (some 49) (.agg #[.bool s18, .slice A18 n18 c18])) (some 50) (.int .i64 0)) v := by
    intro s15 A15 n15 c15 s16 A16 n16 c16 s18 A18 n18 c18 g3_16 v HXj HZ5hr15j HZ11hr16j HZ12hr18j HPg3_16j HGg3_16j
    subst hF ha0 hL0
    simp only [PT] at  ⊢
    have hHeld := HS10.out _ HXj.out
    refine wpAnyH_ready (rs := [17]) (by kernel_rfl) (by simp) ?_
    refine .cons rfl (fun K hK => ?_) .nil
    have z11_0 := HPg3_16j.out.cell 0 rfl
    have y11_0 := HPg3_16j.out.frozen 0
    have z11_1 := HPg3_16j.out.cell 1 rfl
    have y11_1 := HPg3_16j.out.frozen 1
    have z11 := HPg3_16j.out.lt
    go_simp
    obtain ⟨v11, hV⟩ := nmz (World.setCell (World.setCell v ⟨g3_16, 0, none⟩ (.bool s18)) ⟨g3_16, 1, none⟩ (.slice A18 n18 c18))
    rw [hV]
    have HE11 := hJ (show sto v g3_16 0 [.bool s18, .slice A18 n18 c18] = v11 from hV)
    clear hV z11 z11_0 y11_0 z11_1 y11_1
    have HX11 := hJ (show Below v8.heap.size v8 v11 by rw [← HE11.out]; exact below_sto HXj.out HGg3_16j.out _ _)
    have HZ11_0 := hJ (show PI v11 s15 A15 n15 c15 ((ax - px) * (by' - py)) by rw [← HE11.out]; exact PIo.sto HZ5hr15j.out HPg3_16j.out rfl _ _)
    have HZ11_1 := hJ (show PI v11 s16 A16 n16 c16 ((ay - py) * (bx - px)) by rw [← HE11.out]; exact PIo.sto HZ11hr16j.out HPg3_16j.out rfl _ _)
    have HZ11_2 := hJ (show PI v11 s18 A18 n18 c18 (((ax - px) * (by' - py)) - ((ay - py) * (bx - px))) by rw [← HE11.out]; exact PIo.sto HZ12hr18j.out HPg3_16j.out rfl _ _)
    have HP11g3_16 := hJ (show BX 48 v11 g3_16 #[.bool s18, .slice A18 n18 c18] by rw [← HE11.out]; exact BX.put HPg3_16j.out _ _)
    clear hHeld
    refine hK.out _ _ (HS10.out _ HX11.out) (fun hHeld => ?_)
    clear hK K
    try simp only [PT]
    refine tq 18 ?_
    try simp only [PT]
    refine wpAnyH_done (by kernel_rfl) ?_ _
    clear hHeld
    have HL12 := hJ (show g3_16 < v11.heap.size from HP11g3_16.out.lt)
    have HP8g2_16w4 := hJ (BX.new HP8g2_16.out HX11.out)
    obtain ⟨cl13, cl14⟩ := HP8g2_16w4.out.c2 0 1 rfl rfl
    obtain ⟨cl15, cl16⟩ := HP11g3_16.out.c2 0 1 rfl rfl
    have HC1_4 := hJ (bt (bt HX4.out HX8.out) HX11.out)
    have HQ1x3w4 := hJ (BX.new HQ1x3.out HC1_4.out)
    have fz17_0 := HQ1x3w4.out.frozen 0
    have fc17_0 := HQ1x3w4.out.cell 0 rfl
    have fz17_1 := HQ1x3w4.out.frozen 1
    have fc17_1 := HQ1x3w4.out.cell 1 rfl
    have fz17_2 := HQ1x3w4.out.frozen 2
    have fc17_2 := HQ1x3w4.out.cell 2 rfl
    have fz17_3 := HQ1x3w4.out.frozen 3
    have fc17_3 := HQ1x3w4.out.cell 3 rfl
    obtain ⟨x17, hx17⟩ := nmz (World.setCell (World.setCell (World.setCell (World.setCell v11 ⟨w.heap.size + 3, 0, none⟩ (.bool s14)) ⟨w.heap.size + 3, 1, none⟩ (.slice A14 n14 c14)) ⟨w.heap.size + 3, 2, none⟩ (.bool s18)) ⟨w.heap.size + 3, 3, none⟩ (.slice A18 n18 c18))
    have HE17 := hJ (show sto v11 (w.heap.size + 3) 0 [.bool s14, .slice A14 n14 c14, .bool s18, .slice A18 n18 c18] = x17 from hx17)
    have HQ17s := hJ (show BX 52 x17 (w.heap.size + 3) #[.bool s14, .slice A14 n14 c14, .bool s18, .slice A18 n18 c18] by rw [← HE17.out]; exact BX.put HQ1x3w4.out _ _)
    have HC0_5 := hJ (show Below w.heap.size w x17 by rw [← HE17.out]; exact below_sto (bt (bt (bt HB1.out HX4.out) HX8.out) HX11.out) HG1x3.out _ _)
    have HZ8_2w4 := hJ (PIo.new HZ8_2.out HX11.out)
    have HZ8_2w5 := hJ (show PI x17 s14 A14 n14 c14 (((ax - px) * (bx - px)) + ((ay - py) * (by' - py))) by rw [← HE17.out]; exact PIo.sto HZ8_2w4.out HQ1x3w4.out rfl _ _)
    have HZ11_2w5 := hJ (show PI x17 s18 A18 n18 c18 (((ax - px) * (by' - py)) - ((ay - py) * (bx - px))) by rw [← HE17.out]; exact PIo.sto HZ11_2.out HQ1x3w4.out rfl _ _)
    go_wp2
    clear cl13 cl14 cl15 cl16 fz17_0 fc17_0 fz17_1 fc17_1 fz17_2 fc17_2 fz17_3 fc17_3 hx17
    exact bodyPost_ret (results_cell_row rfl _ _ _ _ _ _ _ rfl HQ17s.out Try.underlying52 rfl W2_size) rfl ⟨s14, A14, n14, c14, s18, A18, n18, c18, rfl, HZ8_2w5.out, HZ11_2w5.out, HC0_5.out⟩
   have J3_5_11_12 : ∀ (s15 : Bool) (A15 : Option Addr) (n15 : Nat) (c15 : Nat) (s16 : Bool) (A16 : Option Addr) (n16 : Nat) (c16 : Nat) (s18 : Bool) (A18 : Option Addr) (n18 : Nat) (c18 : Nat) (v : World), Hid (Below v8.heap.size v8 v) → Hid (PI v s15 A15 n15 c15 ((ax - px) * (by' - py))) → Hid (PI v s16 A16 n16 c16 ((ay - py) * (bx - px))) → Hid (PI v s18 A18 n18 c18 (((ax - px) * (by' - py)) - ((ay - py) * (bx - px)))) → F 3 (Array.setIfInBounds (Array.setIfInBounds (Array.setIfInBounds (Array.setIfInBounds (Array.setIfInBounds (Array.setIfInBounds L0 5 true) 11 true) 12 true) 13 true) 14 true) 15 true) (Act.put (Act.put (Act.put (Act.put (Act.put (Act.put a0 (some 41) (.agg #[.bool s15, .slice A15 n15 c15])) (some 47) (.agg #[.bool s16, .slice A16 n16 c16])) (some 48) (.tuple #[.agg #[.bool s18, .slice A18 n18 c18], .int .i64 0])) (some 35) (.tuple #[.agg #[.bool s18, .slice A18 n18 c18], .int .i64 0])) (some 49) (.agg #[.bool s18, .slice A18 n18 c18])) (some 50) (.int .i64 0)) v := by
    intro s15 A15 n15 c15 s16 A16 n16 c16 s18 A18 n18 c18 v HXj HZ5hr15j HZ11hr16j HZ12hr18j
    subst hF ha0 hL0
    simp only [PT] at J3_5_11_12_16 ⊢
    have hHeld := HS10.out _ HXj.out
    refine wpAnyH_ready (rs := [16]) (by kernel_rfl) (by simp) ?_
    refine .cons rfl (fun K hK => ?_) .nil
    go_simp
    have HB18 := hJ ((Below.refl v.heap.size v).alloc (Nat.le_refl _) (.cells #[.bool false, .slice none 0 0] 48))
    have HP18 := hJ (BX.lit v 48 #[.bool false, .slice none 0 0])
    obtain ⟨v18, hV⟩ := nmz (World.alloc v (.cells #[.bool false, .slice none 0 0] 48))
    obtain ⟨g3_16, hg⟩ := nmz (v.heap.size)
    rw [hV] at HB18 HP18 ⊢
    rw [hg] at HP18 ⊢
    have HG18 := hJ (show v8.heap.size ≤ g3_16 by rw [← hg]; exact HXj.out.size)
    clear hV hg
    have HX18 := hJ (bt HXj.out HB18.out)
    have HZ18_0 := hJ (PIo.new HZ5hr15j.out HB18.out)
    have HZ18_1 := hJ (PIo.new HZ11hr16j.out HB18.out)
    have HZ18_2 := hJ (PIo.new HZ12hr18j.out HB18.out)
    clear hHeld
    refine hK.out _ _ (HS10.out _ HX18.out) (fun hHeld => ?_)
    clear hK K
    try simp only [PT]
    exact wpAnyH_cast (by kernel_rfl) (J3_5_11_12_16 s15 A15 n15 c15 s16 A16 n16 c16 s18 A18 n18 c18 g3_16 v18 HX18 HZ18_0 HZ18_1 HZ18_2 HP18 HG18)
   have J3_5_11_16 : ∀ (s15 : Bool) (A15 : Option Addr) (n15 : Nat) (c15 : Nat) (s16 : Bool) (A16 : Option Addr) (n16 : Nat) (c16 : Nat) (g3_16 : Nat) (v : World), Hid (Below v8.heap.size v8 v) → Hid (PI v s15 A15 n15 c15 ((ax - px) * (by' - py))) → Hid (PI v s16 A16 n16 c16 ((ay - py) * (bx - px))) → Hid (BX 48 v g3_16 #[.bool false, .slice none 0 0]) → Hid (v8.heap.size ≤ g3_16) → F 6 (Array.setIfInBounds (Array.setIfInBounds (Array.setIfInBounds L0 5 true) 11 true) 16 true) (Act.put (Act.put (Act.put a0 (some 41) (.agg #[.bool s15, .slice A15 n15 c15])) (some 47) (.agg #[.bool s16, .slice A16 n16 c16])) (some 11) (.pointer (some ⟨g3_16, 0, none⟩))) v := by
    intro s15 A15 n15 c15 s16 A16 n16 c16 g3_16 v HXj HZ5hr15j HZ11hr16j HPg3_16j HGg3_16j
    subst hF ha0 hL0
    simp only [PT] at J3_5_11_12_16 ⊢
    have hHeld := HS10.out _ HXj.out
    refine wpAnyH_ready (rs := [12]) (by kernel_rfl) (by simp) ?_
    refine .cons rfl (fun K hK => ?_) .nil
    go_simp
    go_at_call 24
    refine (psub_any ((ax - px) * (by' - py)) ((ay - py) * (bx - px)) s15 s16 A15 A16 n15 c15 n16 c16 v HZ5hr15j.out HZ11hr16j.out (Nat.le_trans (plim HZ5hr15j.out (nk_lim HM.out.2.1)) (by decide)) (Nat.le_trans (plim HZ11hr16j.out (nk_lim HM.out.2.2)) (by decide)) (nk_lim HM.out.2.1) (nk_lim HM.out.2.2)).mono ?_
    rw [HIN17.out.1, HIN17.out.2]
    rintro e v19 ⟨s18, A18, n18, c18, rfl, hr18, hb⟩
    have HB19 := hJ hb
    have HR19hr18 := hJ hr18
    clear hb hr18
    go_wp2_with fail
    have HX19 := hJ (bt HXj.out HB19.out)
    have HZ19_0 := hJ (PIo.new HZ5hr15j.out HB19.out)
    have HZ19_1 := hJ (PIo.new HZ11hr16j.out HB19.out)
    have HP19g3_16 := hJ (BX.new HPg3_16j.out HB19.out)
    clear hHeld
    refine hK.out _ _ (HS10.out _ HX19.out) (fun hHeld => ?_)
    clear hK K
    try simp only [PT]
    refine tq 13 ?_
    try simp only [PT]
    refine tq 14 ?_
    try simp only [PT]
    refine tq 15 ?_
    try simp only [PT]
    exact wpAnyH_cast (by kernel_rfl) (J3_5_11_12_16 s15 A15 n15 c15 s16 A16 n16 c16 s18 A18 n18 c18 g3_16 v19 HX19 HZ19_0 HZ19_1 HR19hr18 HP19g3_16 HGg3_16j)
   have J3_5_11 : ∀ (s15 : Bool) (A15 : Option Addr) (n15 : Nat) (c15 : Nat) (s16 : Bool) (A16 : Option Addr) (n16 : Nat) (c16 : Nat) (v : World), Hid (Below v8.heap.size v8 v) → Hid (PI v s15 A15 n15 c15 ((ax - px) * (by' - py))) → Hid (PI v s16 A16 n16 c16 ((ay - py) * (bx - px))) → F 7 (Array.setIfInBounds (Array.setIfInBounds L0 5 true) 11 true) (Act.put (Act.put a0 (some 41) (.agg #[.bool s15, .slice A15 n15 c15])) (some 47) (.agg #[.bool s16, .slice A16 n16 c16])) v := by
    intro s15 A15 n15 c15 s16 A16 n16 c16 v HXj HZ5hr15j HZ11hr16j
    subst hF ha0 hL0
    simp only [PT] at J3_5_11_12 J3_5_11_16 ⊢
    have hHeld := HS10.out _ HXj.out
    refine wpAnyH_ready (rs := [12, 16]) (by kernel_rfl) (by simp) ?_
    refine .cons rfl (fun K hK => ?_) ?_
    go_simp
    go_at_call 24
    refine (psub_any ((ax - px) * (by' - py)) ((ay - py) * (bx - px)) s15 s16 A15 A16 n15 c15 n16 c16 v HZ5hr15j.out HZ11hr16j.out (Nat.le_trans (plim HZ5hr15j.out (nk_lim HM.out.2.1)) (by decide)) (Nat.le_trans (plim HZ11hr16j.out (nk_lim HM.out.2.2)) (by decide)) (nk_lim HM.out.2.1) (nk_lim HM.out.2.2)).mono ?_
    rw [HIN17.out.1, HIN17.out.2]
    rintro e v20 ⟨s18, A18, n18, c18, rfl, hr18, hb⟩
    have HB20 := hJ hb
    have HR20hr18 := hJ hr18
    clear hb hr18
    go_wp2_with fail
    have HX20 := hJ (bt HXj.out HB20.out)
    have HZ20_0 := hJ (PIo.new HZ5hr15j.out HB20.out)
    have HZ20_1 := hJ (PIo.new HZ11hr16j.out HB20.out)
    clear hHeld
    refine hK.out _ _ (HS10.out _ HX20.out) (fun hHeld => ?_)
    clear hK K
    try simp only [PT]
    refine tq 13 ?_
    try simp only [PT]
    refine tq 14 ?_
    try simp only [PT]
    refine tq 15 ?_
    try simp only [PT]
    exact wpAnyH_cast (by kernel_rfl) (J3_5_11_12 s15 A15 n15 c15 s16 A16 n16 c16 s18 A18 n18 c18 v20 HX20 HZ20_0 HZ20_1 HR20hr18)
    refine .cons rfl (fun K hK => ?_) .nil
    go_simp
    have HB21 := hJ ((Below.refl v.heap.size v).alloc (Nat.le_refl _) (.cells #[.bool false, .slice none 0 0] 48))
    have HP21 := hJ (BX.lit v 48 #[.bool false, .slice none 0 0])
    obtain ⟨v21, hV⟩ := nmz (World.alloc v (.cells #[.bool false, .slice none 0 0] 48))
    obtain ⟨g3_16, hg⟩ := nmz (v.heap.size)
    rw [hV] at HB21 HP21 ⊢
    rw [hg] at HP21 ⊢
    have HG21 := hJ (show v8.heap.size ≤ g3_16 by rw [← hg]; exact HXj.out.size)
    clear hV hg
    have HX21 := hJ (bt HXj.out HB21.out)
    have HZ21_0 := hJ (PIo.new HZ5hr15j.out HB21.out)
    have HZ21_1 := hJ (PIo.new HZ11hr16j.out HB21.out)
    clear hHeld
    refine hK.out _ _ (HS10.out _ HX21.out) (fun hHeld => ?_)
    clear hK K
    try simp only [PT]
    exact wpAnyH_cast (by kernel_rfl) (J3_5_11_16 s15 A15 n15 c15 s16 A16 n16 c16 g3_16 v21 HX21 HZ21_0 HZ21_1 HP21 HG21)
   have J3_5_16 : ∀ (s15 : Bool) (A15 : Option Addr) (n15 : Nat) (c15 : Nat) (g3_16 : Nat) (v : World), Hid (Below v8.heap.size v8 v) → Hid (PI v s15 A15 n15 c15 ((ax - px) * (by' - py))) → Hid (BX 48 v g3_16 #[.bool false, .slice none 0 0]) → Hid (v8.heap.size ≤ g3_16) → F 7 (Array.setIfInBounds (Array.setIfInBounds L0 5 true) 16 true) (Act.put (Act.put a0 (some 41) (.agg #[.bool s15, .slice A15 n15 c15])) (some 11) (.pointer (some ⟨g3_16, 0, none⟩))) v := by
    intro s15 A15 n15 c15 g3_16 v HXj HZ5hr15j HPg3_16j HGg3_16j
    subst hF ha0 hL0
    simp only [PT] at J3_5_11_16 ⊢
    have hHeld := HS10.out _ HXj.out
    refine wpAnyH_ready (rs := [11]) (by kernel_rfl) (by simp) ?_
    refine .cons rfl (fun K hK => ?_) .nil
    go_simp
    go_at_call 47
    refine (from_any ((ay - py) * (bx - px)) v (i6_wf (nk_i6 HM.out.2.2 (by decide)))).mono ?_
    rintro e v22 ⟨s16, A16, n16, c16, rfl, hr16, hb⟩
    have HB22 := hJ hb
    have HR22hr16 := hJ hr16
    clear hb hr16
    go_wp2_with fail
    have HX22 := hJ (bt HXj.out HB22.out)
    have HZ22_0 := hJ (PIo.new HZ5hr15j.out HB22.out)
    have HP22g3_16 := hJ (BX.new HPg3_16j.out HB22.out)
    clear hHeld
    refine hK.out _ _ (HS10.out _ HX22.out) (fun hHeld => ?_)
    clear hK K
    try simp only [PT]
    exact wpAnyH_cast (by kernel_rfl) (J3_5_11_16 s15 A15 n15 c15 s16 A16 n16 c16 g3_16 v22 HX22 HZ22_0 HR22hr16 HP22g3_16 HGg3_16j)
   have J3_5 : ∀ (s15 : Bool) (A15 : Option Addr) (n15 : Nat) (c15 : Nat) (v : World), Hid (Below v8.heap.size v8 v) → Hid (PI v s15 A15 n15 c15 ((ax - px) * (by' - py))) → F 8 (Array.setIfInBounds L0 5 true) (Act.put a0 (some 41) (.agg #[.bool s15, .slice A15 n15 c15])) v := by
    intro s15 A15 n15 c15 v HXj HZ5hr15j
    subst hF ha0 hL0
    simp only [PT] at J3_5_11 J3_5_16 ⊢
    have hHeld := HS10.out _ HXj.out
    refine wpAnyH_ready (rs := [11, 16]) (by kernel_rfl) (by simp) ?_
    refine .cons rfl (fun K hK => ?_) ?_
    go_simp
    go_at_call 47
    refine (from_any ((ay - py) * (bx - px)) v (i6_wf (nk_i6 HM.out.2.2 (by decide)))).mono ?_
    rintro e v23 ⟨s16, A16, n16, c16, rfl, hr16, hb⟩
    have HB23 := hJ hb
    have HR23hr16 := hJ hr16
    clear hb hr16
    go_wp2_with fail
    have HX23 := hJ (bt HXj.out HB23.out)
    have HZ23_0 := hJ (PIo.new HZ5hr15j.out HB23.out)
    clear hHeld
    refine hK.out _ _ (HS10.out _ HX23.out) (fun hHeld => ?_)
    clear hK K
    try simp only [PT]
    exact wpAnyH_cast (by kernel_rfl) (J3_5_11 s15 A15 n15 c15 s16 A16 n16 c16 v23 HX23 HZ23_0 HR23hr16)
    refine .cons rfl (fun K hK => ?_) .nil
    go_simp
    have HB24 := hJ ((Below.refl v.heap.size v).alloc (Nat.le_refl _) (.cells #[.bool false, .slice none 0 0] 48))
    have HP24 := hJ (BX.lit v 48 #[.bool false, .slice none 0 0])
    obtain ⟨v24, hV⟩ := nmz (World.alloc v (.cells #[.bool false, .slice none 0 0] 48))
    obtain ⟨g3_16, hg⟩ := nmz (v.heap.size)
    rw [hV] at HB24 HP24 ⊢
    rw [hg] at HP24 ⊢
    have HG24 := hJ (show v8.heap.size ≤ g3_16 by rw [← hg]; exact HXj.out.size)
    clear hV hg
    have HX24 := hJ (bt HXj.out HB24.out)
    have HZ24_0 := hJ (PIo.new HZ5hr15j.out HB24.out)
    clear hHeld
    refine hK.out _ _ (HS10.out _ HX24.out) (fun hHeld => ?_)
    clear hK K
    try simp only [PT]
    exact wpAnyH_cast (by kernel_rfl) (J3_5_16 s15 A15 n15 c15 g3_16 v24 HX24 HZ24_0 HP24 HG24)
   have J3_16 : ∀ (g3_16 : Nat) (v : World), Hid (Below v8.heap.size v8 v) → Hid (BX 48 v g3_16 #[.bool false, .slice none 0 0]) → Hid (v8.heap.size ≤ g3_16) → F 8 (Array.setIfInBounds L0 16 true) (Act.put a0 (some 11) (.pointer (some ⟨g3_16, 0, none⟩))) v := by
    intro g3_16 v HXj HPg3_16j HGg3_16j
    subst hF ha0 hL0
    simp only [PT] at J3_5_16 ⊢
    have hHeld := HS10.out _ HXj.out
    refine wpAnyH_ready (rs := [5]) (by kernel_rfl) (by simp) ?_
    refine .cons rfl (fun K hK => ?_) .nil
    go_simp
    go_at_call 47
    refine (from_any ((ax - px) * (by' - py)) v (i6_wf (nk_i6 HM.out.2.1 (by decide)))).mono ?_
    rintro e v25 ⟨s15, A15, n15, c15, rfl, hr15, hb⟩
    have HB25 := hJ hb
    have HR25hr15 := hJ hr15
    clear hb hr15
    go_wp2_with fail
    have HX25 := hJ (bt HXj.out HB25.out)
    have HP25g3_16 := hJ (BX.new HPg3_16j.out HB25.out)
    clear hHeld
    refine hK.out _ _ (HS10.out _ HX25.out) (fun hHeld => ?_)
    clear hK K
    try simp only [PT]
    exact wpAnyH_cast (by kernel_rfl) (J3_5_16 s15 A15 n15 c15 g3_16 v25 HX25 HR25hr15 HP25g3_16 HGg3_16j)
   subst hF ha0 hL0
   simp only [PT] at J3_5 J3_16
   refine wpAnyH_ready (rs := [5, 16]) (by kernel_rfl) (by simp) ?_
   refine .cons rfl (fun K hK => ?_) ?_
   go_simp
   go_at_call 47
   refine (from_any ((ax - px) * (by' - py)) v10 (i6_wf (nk_i6 HM.out.2.1 (by decide)))).mono ?_
   rintro e v26 ⟨s15, A15, n15, c15, rfl, hr15, hb⟩
   have HB26 := hJ hb
   have HR26hr15 := hJ hr15
   clear hb hr15
   go_wp2_with fail
   have HX26 := hJ (bt HX10.out HB26.out)
   clear hHeld
   refine hK.out _ _ (HS10.out _ HX26.out) (fun hHeld => ?_)
   clear hK K
   try simp only [PT]
   exact wpAnyH_cast (by kernel_rfl) (J3_5 s15 A15 n15 c15 v26 HX26 HR26hr15)
   refine .cons rfl (fun K hK => ?_) .nil
   go_simp
   have HB27 := hJ ((Below.refl v10.heap.size v10).alloc (Nat.le_refl _) (.cells #[.bool false, .slice none 0 0] 48))
   have HP27 := hJ (BX.lit v10 48 #[.bool false, .slice none 0 0])
   obtain ⟨v27, hV⟩ := nmz (World.alloc v10 (.cells #[.bool false, .slice none 0 0] 48))
   obtain ⟨g3_16, hg⟩ := nmz (v10.heap.size)
   rw [hV] at HB27 HP27 ⊢
   rw [hg] at HP27 ⊢
   have HG27 := hJ (show v8.heap.size ≤ g3_16 by rw [← hg]; exact HX10.out.size)
   clear hV hg
   have HX27 := hJ (bt HX10.out HB27.out)
   clear hHeld
   refine hK.out _ _ (HS10.out _ HX27.out) (fun hHeld => ?_)
   clear hK K
   try simp only [PT]
   exact wpAnyH_cast (by kernel_rfl) (J3_16 g3_16 v27 HX27 HP27 HG27)
  have J2_5_11_12 : ∀ (s11 : Bool) (A11 : Option Addr) (n11 : Nat) (c11 : Nat) (s12 : Bool) (A12 : Option Addr) (n12 : Nat) (c12 : Nat) (s14 : Bool) (A14 : Option Addr) (n14 : Nat) (c14 : Nat) (v : World), Hid (Below v4.heap.size v4 v) → Hid (PI v s11 A11 n11 c11 ((ax - px) * (bx - px))) → Hid (PI v s12 A12 n12 c12 ((ay - py) * (by' - py))) → Hid (PI v s14 A14 n14 c14 (((ax - px) * (bx - px)) + ((ay - py) * (by' - py)))) → F 3 (Array.setIfInBounds (Array.setIfInBounds (Array.setIfInBounds (Array.setIfInBounds (Array.setIfInBounds (Array.setIfInBounds L0 5 true) 11 true) 12 true) 13 true) 14 true) 15 true) (Act.put (Act.put (Act.put (Act.put (Act.put (Act.put a0 (some 25) (.agg #[.bool s11, .slice A11 n11 c11])) (some 31) (.agg #[.bool s12, .slice A12 n12 c12])) (some 32) (.tuple #[.agg #[.bool s14, .slice A14 n14 c14], .int .i64 0])) (some 19) (.tuple #[.agg #[.bool s14, .slice A14 n14 c14], .int .i64 0])) (some 33) (.agg #[.bool s14, .slice A14 n14 c14])) (some 34) (.int .i64 0)) v := by
   intro s11 A11 n11 c11 s12 A12 n12 c12 s14 A14 n14 c14 v HXj HZ5hr11j HZ11hr12j HZ12hr14j
   subst hF ha0 hL0
   simp only [PT] at J2_5_11_12_16 ⊢
   have hHeld := HS7.out _ HXj.out
   refine wpAnyH_ready (rs := [16]) (by kernel_rfl) (by simp) ?_
   refine .cons rfl (fun K hK => ?_) .nil
   go_simp
   have HB28 := hJ ((Below.refl v.heap.size v).alloc (Nat.le_refl _) (.cells #[.bool false, .slice none 0 0] 48))
   have HP28 := hJ (BX.lit v 48 #[.bool false, .slice none 0 0])
   obtain ⟨v28, hV⟩ := nmz (World.alloc v (.cells #[.bool false, .slice none 0 0] 48))
   obtain ⟨g2_16, hg⟩ := nmz (v.heap.size)
   rw [hV] at HB28 HP28 ⊢
   rw [hg] at HP28 ⊢
   have HG28 := hJ (show v4.heap.size ≤ g2_16 by rw [← hg]; exact HXj.out.size)
   clear hV hg
   have HX28 := hJ (bt HXj.out HB28.out)
   have HZ28_0 := hJ (PIo.new HZ5hr11j.out HB28.out)
   have HZ28_1 := hJ (PIo.new HZ11hr12j.out HB28.out)
   have HZ28_2 := hJ (PIo.new HZ12hr14j.out HB28.out)
   clear hHeld
   refine hK.out _ _ (HS7.out _ HX28.out) (fun hHeld => ?_)
   clear hK K
   try simp only [PT]
   exact wpAnyH_cast (by kernel_rfl) (J2_5_11_12_16 s11 A11 n11 c11 s12 A12 n12 c12 s14 A14 n14 c14 g2_16 v28 HX28 HZ28_0 HZ28_1 HZ28_2 HP28 HG28)
  have J2_5_11_16 : ∀ (s11 : Bool) (A11 : Option Addr) (n11 : Nat) (c11 : Nat) (s12 : Bool) (A12 : Option Addr) (n12 : Nat) (c12 : Nat) (g2_16 : Nat) (v : World), Hid (Below v4.heap.size v4 v) → Hid (PI v s11 A11 n11 c11 ((ax - px) * (bx - px))) → Hid (PI v s12 A12 n12 c12 ((ay - py) * (by' - py))) → Hid (BX 48 v g2_16 #[.bool false, .slice none 0 0]) → Hid (v4.heap.size ≤ g2_16) → F 6 (Array.setIfInBounds (Array.setIfInBounds (Array.setIfInBounds L0 5 true) 11 true) 16 true) (Act.put (Act.put (Act.put a0 (some 25) (.agg #[.bool s11, .slice A11 n11 c11])) (some 31) (.agg #[.bool s12, .slice A12 n12 c12])) (some 9) (.pointer (some ⟨g2_16, 0, none⟩))) v := by
   intro s11 A11 n11 c11 s12 A12 n12 c12 g2_16 v HXj HZ5hr11j HZ11hr12j HPg2_16j HGg2_16j
   subst hF ha0 hL0
   simp only [PT] at J2_5_11_12_16 ⊢
   have hHeld := HS7.out _ HXj.out
   refine wpAnyH_ready (rs := [12]) (by kernel_rfl) (by simp) ?_
   refine .cons rfl (fun K hK => ?_) .nil
   go_simp
   go_at_call 42
   refine (padd_any ((ax - px) * (bx - px)) ((ay - py) * (by' - py)) s11 s12 A11 A12 n11 c11 n12 c12 v HZ5hr11j.out HZ11hr12j.out (Nat.le_trans (plim HZ5hr11j.out (nk_lim HM.out.1.1)) (by decide)) (Nat.le_trans (plim HZ11hr12j.out (nk_lim HM.out.1.2)) (by decide)) (nk_lim HM.out.1.1) (nk_lim HM.out.1.2)).mono ?_
   rw [HIN13.out.1, HIN13.out.2]
   rintro e v29 ⟨s14, A14, n14, c14, rfl, hr14, hb⟩
   have HB29 := hJ hb
   have HR29hr14 := hJ hr14
   clear hb hr14
   go_wp2_with fail
   have HX29 := hJ (bt HXj.out HB29.out)
   have HZ29_0 := hJ (PIo.new HZ5hr11j.out HB29.out)
   have HZ29_1 := hJ (PIo.new HZ11hr12j.out HB29.out)
   have HP29g2_16 := hJ (BX.new HPg2_16j.out HB29.out)
   clear hHeld
   refine hK.out _ _ (HS7.out _ HX29.out) (fun hHeld => ?_)
   clear hK K
   try simp only [PT]
   refine tq 13 ?_
   try simp only [PT]
   refine tq 14 ?_
   try simp only [PT]
   refine tq 15 ?_
   try simp only [PT]
   exact wpAnyH_cast (by kernel_rfl) (J2_5_11_12_16 s11 A11 n11 c11 s12 A12 n12 c12 s14 A14 n14 c14 g2_16 v29 HX29 HZ29_0 HZ29_1 HR29hr14 HP29g2_16 HGg2_16j)
  have J2_5_11 : ∀ (s11 : Bool) (A11 : Option Addr) (n11 : Nat) (c11 : Nat) (s12 : Bool) (A12 : Option Addr) (n12 : Nat) (c12 : Nat) (v : World), Hid (Below v4.heap.size v4 v) → Hid (PI v s11 A11 n11 c11 ((ax - px) * (bx - px))) → Hid (PI v s12 A12 n12 c12 ((ay - py) * (by' - py))) → F 7 (Array.setIfInBounds (Array.setIfInBounds L0 5 true) 11 true) (Act.put (Act.put a0 (some 25) (.agg #[.bool s11, .slice A11 n11 c11])) (some 31) (.agg #[.bool s12, .slice A12 n12 c12])) v := by
   intro s11 A11 n11 c11 s12 A12 n12 c12 v HXj HZ5hr11j HZ11hr12j
   subst hF ha0 hL0
   simp only [PT] at J2_5_11_12 J2_5_11_16 ⊢
   have hHeld := HS7.out _ HXj.out
   refine wpAnyH_ready (rs := [12, 16]) (by kernel_rfl) (by simp) ?_
   refine .cons rfl (fun K hK => ?_) ?_
   go_simp
   go_at_call 42
   refine (padd_any ((ax - px) * (bx - px)) ((ay - py) * (by' - py)) s11 s12 A11 A12 n11 c11 n12 c12 v HZ5hr11j.out HZ11hr12j.out (Nat.le_trans (plim HZ5hr11j.out (nk_lim HM.out.1.1)) (by decide)) (Nat.le_trans (plim HZ11hr12j.out (nk_lim HM.out.1.2)) (by decide)) (nk_lim HM.out.1.1) (nk_lim HM.out.1.2)).mono ?_
   rw [HIN13.out.1, HIN13.out.2]
   rintro e v30 ⟨s14, A14, n14, c14, rfl, hr14, hb⟩
   have HB30 := hJ hb
   have HR30hr14 := hJ hr14
   clear hb hr14
   go_wp2_with fail
   have HX30 := hJ (bt HXj.out HB30.out)
   have HZ30_0 := hJ (PIo.new HZ5hr11j.out HB30.out)
   have HZ30_1 := hJ (PIo.new HZ11hr12j.out HB30.out)
   clear hHeld
   refine hK.out _ _ (HS7.out _ HX30.out) (fun hHeld => ?_)
   clear hK K
   try simp only [PT]
   refine tq 13 ?_
   try simp only [PT]
   refine tq 14 ?_
   try simp only [PT]
   refine tq 15 ?_
   try simp only [PT]
   exact wpAnyH_cast (by kernel_rfl) (J2_5_11_12 s11 A11 n11 c11 s12 A12 n12 c12 s14 A14 n14 c14 v30 HX30 HZ30_0 HZ30_1 HR30hr14)
   refine .cons rfl (fun K hK => ?_) .nil
   go_simp
   have HB31 := hJ ((Below.refl v.heap.size v).alloc (Nat.le_refl _) (.cells #[.bool false, .slice none 0 0] 48))
   have HP31 := hJ (BX.lit v 48 #[.bool false, .slice none 0 0])
   obtain ⟨v31, hV⟩ := nmz (World.alloc v (.cells #[.bool false, .slice none 0 0] 48))
   obtain ⟨g2_16, hg⟩ := nmz (v.heap.size)
   rw [hV] at HB31 HP31 ⊢
   rw [hg] at HP31 ⊢
   have HG31 := hJ (show v4.heap.size ≤ g2_16 by rw [← hg]; exact HXj.out.size)
   clear hV hg
   have HX31 := hJ (bt HXj.out HB31.out)
   have HZ31_0 := hJ (PIo.new HZ5hr11j.out HB31.out)
   have HZ31_1 := hJ (PIo.new HZ11hr12j.out HB31.out)
   clear hHeld
   refine hK.out _ _ (HS7.out _ HX31.out) (fun hHeld => ?_)
   clear hK K
   try simp only [PT]
   exact wpAnyH_cast (by kernel_rfl) (J2_5_11_16 s11 A11 n11 c11 s12 A12 n12 c12 g2_16 v31 HX31 HZ31_0 HZ31_1 HP31 HG31)
  have J2_5_16 : ∀ (s11 : Bool) (A11 : Option Addr) (n11 : Nat) (c11 : Nat) (g2_16 : Nat) (v : World), Hid (Below v4.heap.size v4 v) → Hid (PI v s11 A11 n11 c11 ((ax - px) * (bx - px))) → Hid (BX 48 v g2_16 #[.bool false, .slice none 0 0]) → Hid (v4.heap.size ≤ g2_16) → F 7 (Array.setIfInBounds (Array.setIfInBounds L0 5 true) 16 true) (Act.put (Act.put a0 (some 25) (.agg #[.bool s11, .slice A11 n11 c11])) (some 9) (.pointer (some ⟨g2_16, 0, none⟩))) v := by
   intro s11 A11 n11 c11 g2_16 v HXj HZ5hr11j HPg2_16j HGg2_16j
   subst hF ha0 hL0
   simp only [PT] at J2_5_11_16 ⊢
   have hHeld := HS7.out _ HXj.out
   refine wpAnyH_ready (rs := [11]) (by kernel_rfl) (by simp) ?_
   refine .cons rfl (fun K hK => ?_) .nil
   go_simp
   go_at_call 47
   refine (from_any ((ay - py) * (by' - py)) v (i6_wf (nk_i6 HM.out.1.2 (by decide)))).mono ?_
   rintro e v32 ⟨s12, A12, n12, c12, rfl, hr12, hb⟩
   have HB32 := hJ hb
   have HR32hr12 := hJ hr12
   clear hb hr12
   go_wp2_with fail
   have HX32 := hJ (bt HXj.out HB32.out)
   have HZ32_0 := hJ (PIo.new HZ5hr11j.out HB32.out)
   have HP32g2_16 := hJ (BX.new HPg2_16j.out HB32.out)
   clear hHeld
   refine hK.out _ _ (HS7.out _ HX32.out) (fun hHeld => ?_)
   clear hK K
   try simp only [PT]
   exact wpAnyH_cast (by kernel_rfl) (J2_5_11_16 s11 A11 n11 c11 s12 A12 n12 c12 g2_16 v32 HX32 HZ32_0 HR32hr12 HP32g2_16 HGg2_16j)
  have J2_5 : ∀ (s11 : Bool) (A11 : Option Addr) (n11 : Nat) (c11 : Nat) (v : World), Hid (Below v4.heap.size v4 v) → Hid (PI v s11 A11 n11 c11 ((ax - px) * (bx - px))) → F 8 (Array.setIfInBounds L0 5 true) (Act.put a0 (some 25) (.agg #[.bool s11, .slice A11 n11 c11])) v := by
   intro s11 A11 n11 c11 v HXj HZ5hr11j
   subst hF ha0 hL0
   simp only [PT] at J2_5_11 J2_5_16 ⊢
   have hHeld := HS7.out _ HXj.out
   refine wpAnyH_ready (rs := [11, 16]) (by kernel_rfl) (by simp) ?_
   refine .cons rfl (fun K hK => ?_) ?_
   go_simp
   go_at_call 47
   refine (from_any ((ay - py) * (by' - py)) v (i6_wf (nk_i6 HM.out.1.2 (by decide)))).mono ?_
   rintro e v33 ⟨s12, A12, n12, c12, rfl, hr12, hb⟩
   have HB33 := hJ hb
   have HR33hr12 := hJ hr12
   clear hb hr12
   go_wp2_with fail
   have HX33 := hJ (bt HXj.out HB33.out)
   have HZ33_0 := hJ (PIo.new HZ5hr11j.out HB33.out)
   clear hHeld
   refine hK.out _ _ (HS7.out _ HX33.out) (fun hHeld => ?_)
   clear hK K
   try simp only [PT]
   exact wpAnyH_cast (by kernel_rfl) (J2_5_11 s11 A11 n11 c11 s12 A12 n12 c12 v33 HX33 HZ33_0 HR33hr12)
   refine .cons rfl (fun K hK => ?_) .nil
   go_simp
   have HB34 := hJ ((Below.refl v.heap.size v).alloc (Nat.le_refl _) (.cells #[.bool false, .slice none 0 0] 48))
   have HP34 := hJ (BX.lit v 48 #[.bool false, .slice none 0 0])
   obtain ⟨v34, hV⟩ := nmz (World.alloc v (.cells #[.bool false, .slice none 0 0] 48))
   obtain ⟨g2_16, hg⟩ := nmz (v.heap.size)
   rw [hV] at HB34 HP34 ⊢
   rw [hg] at HP34 ⊢
   have HG34 := hJ (show v4.heap.size ≤ g2_16 by rw [← hg]; exact HXj.out.size)
   clear hV hg
   have HX34 := hJ (bt HXj.out HB34.out)
   have HZ34_0 := hJ (PIo.new HZ5hr11j.out HB34.out)
   clear hHeld
   refine hK.out _ _ (HS7.out _ HX34.out) (fun hHeld => ?_)
   clear hK K
   try simp only [PT]
   exact wpAnyH_cast (by kernel_rfl) (J2_5_16 s11 A11 n11 c11 g2_16 v34 HX34 HZ34_0 HP34 HG34)
  have J2_16 : ∀ (g2_16 : Nat) (v : World), Hid (Below v4.heap.size v4 v) → Hid (BX 48 v g2_16 #[.bool false, .slice none 0 0]) → Hid (v4.heap.size ≤ g2_16) → F 8 (Array.setIfInBounds L0 16 true) (Act.put a0 (some 9) (.pointer (some ⟨g2_16, 0, none⟩))) v := by
   intro g2_16 v HXj HPg2_16j HGg2_16j
   subst hF ha0 hL0
   simp only [PT] at J2_5_16 ⊢
   have hHeld := HS7.out _ HXj.out
   refine wpAnyH_ready (rs := [5]) (by kernel_rfl) (by simp) ?_
   refine .cons rfl (fun K hK => ?_) .nil
   go_simp
   go_at_call 47
   refine (from_any ((ax - px) * (bx - px)) v (i6_wf (nk_i6 HM.out.1.1 (by decide)))).mono ?_
   rintro e v35 ⟨s11, A11, n11, c11, rfl, hr11, hb⟩
   have HB35 := hJ hb
   have HR35hr11 := hJ hr11
   clear hb hr11
   go_wp2_with fail
   have HX35 := hJ (bt HXj.out HB35.out)
   have HP35g2_16 := hJ (BX.new HPg2_16j.out HB35.out)
   clear hHeld
   refine hK.out _ _ (HS7.out _ HX35.out) (fun hHeld => ?_)
   clear hK K
   try simp only [PT]
   exact wpAnyH_cast (by kernel_rfl) (J2_5_16 s11 A11 n11 c11 g2_16 v35 HX35 HR35hr11 HP35g2_16 HGg2_16j)
  subst hF ha0 hL0
  simp only [PT] at J2_5 J2_16
  refine wpAnyH_ready (rs := [5, 16]) (by kernel_rfl) (by simp) ?_
  refine .cons rfl (fun K hK => ?_) ?_
  go_simp
  go_at_call 47
  refine (from_any ((ax - px) * (bx - px)) v7 (i6_wf (nk_i6 HM.out.1.1 (by decide)))).mono ?_
  rintro e v36 ⟨s11, A11, n11, c11, rfl, hr11, hb⟩
  have HB36 := hJ hb
  have HR36hr11 := hJ hr11
  clear hb hr11
  go_wp2_with fail
  have HX36 := hJ (bt HX7.out HB36.out)
  clear hHeld
  refine hK.out _ _ (HS7.out _ HX36.out) (fun hHeld => ?_)
  clear hK K
  try simp only [PT]
  exact wpAnyH_cast (by kernel_rfl) (J2_5 s11 A11 n11 c11 v36 HX36 HR36hr11)
  refine .cons rfl (fun K hK => ?_) .nil
  go_simp
  have HB37 := hJ ((Below.refl v7.heap.size v7).alloc (Nat.le_refl _) (.cells #[.bool false, .slice none 0 0] 48))
  have HP37 := hJ (BX.lit v7 48 #[.bool false, .slice none 0 0])
  obtain ⟨v37, hV⟩ := nmz (World.alloc v7 (.cells #[.bool false, .slice none 0 0] 48))
  obtain ⟨g2_16, hg⟩ := nmz (v7.heap.size)
  rw [hV] at HB37 HP37 ⊢
  rw [hg] at HP37 ⊢
  have HG37 := hJ (show v4.heap.size ≤ g2_16 by rw [← hg]; exact HX7.out.size)
  clear hV hg
  have HX37 := hJ (bt HX7.out HB37.out)
  clear hHeld
  refine hK.out _ _ (HS7.out _ HX37.out) (fun hHeld => ?_)
  clear hK K
  try simp only [PT]
  exact wpAnyH_cast (by kernel_rfl) (J2_16 g2_16 v37 HX37 HP37 HG37)
 have J1_2_5_6 : ∀ (g1_6 : Nat) (v : World), Hid (Below x1.heap.size x1 v) → Hid (BX 25 v g1_6 #[.int .i64 0, .int .i64 0]) → Hid (x1.heap.size ≤ g1_6) → F 3 (Array.setIfInBounds (Array.setIfInBounds (Array.setIfInBounds L0 2 true) 5 true) 6 true) (Act.put (Act.put (Act.put a0 (some 15) (.agg #[.int .i64 (ax - px), .int .i64 (ay - py)])) (some 18) (.agg #[.int .i64 (bx - px), .int .i64 (by' - py)])) (some 7) (.pointer (some ⟨g1_6, 0, none⟩))) v := by
  intro g1_6 v HXj HPg1_6j HGg1_6j
  subst hF ha0 hL0
  simp only [PT] at J1_2_5_6_7 ⊢
  have hHeld := HS2.out _ HXj.out
  refine wpAnyH_ready (rs := [7]) (by kernel_rfl) (by simp) ?_
  refine .cons rfl (fun K hK => ?_) .nil
  go_simp
  have HB38 := hJ ((Below.refl v.heap.size v).alloc (Nat.le_refl _) (.cells #[.int .i64 0, .int .i64 0] 25))
  have HP38 := hJ (BX.lit v 25 #[.int .i64 0, .int .i64 0])
  obtain ⟨v38, hV⟩ := nmz (World.alloc v (.cells #[.int .i64 0, .int .i64 0] 25))
  obtain ⟨g1_7, hg⟩ := nmz (v.heap.size)
  rw [hV] at HB38 HP38 ⊢
  rw [hg] at HP38 ⊢
  have HG38 := hJ (show x1.heap.size ≤ g1_7 by rw [← hg]; exact HXj.out.size)
  have HN38g1_6 := hJ (show g1_6 ≠ g1_7 by have := HPg1_6j.out.lt; rw [hg] at this; omega)
  clear hV hg
  have HX38 := hJ (bt HXj.out HB38.out)
  have HP38g1_6 := hJ (BX.new HPg1_6j.out HB38.out)
  clear hHeld
  refine hK.out _ _ (HS2.out _ HX38.out) (fun hHeld => ?_)
  clear hK K
  try simp only [PT]
  exact wpAnyH_cast (by kernel_rfl) (J1_2_5_6_7 g1_6 g1_7 v38 HX38 HP38g1_6 HGg1_6j HP38 HG38 (hJ HN38g1_6.out))
 have J1_2_5_7 : ∀ (g1_7 : Nat) (v : World), Hid (Below x1.heap.size x1 v) → Hid (BX 25 v g1_7 #[.int .i64 0, .int .i64 0]) → Hid (x1.heap.size ≤ g1_7) → F 3 (Array.setIfInBounds (Array.setIfInBounds (Array.setIfInBounds L0 2 true) 5 true) 7 true) (Act.put (Act.put (Act.put a0 (some 15) (.agg #[.int .i64 (ax - px), .int .i64 (ay - py)])) (some 18) (.agg #[.int .i64 (bx - px), .int .i64 (by' - py)])) (some 8) (.pointer (some ⟨g1_7, 0, none⟩))) v := by
  intro g1_7 v HXj HPg1_7j HGg1_7j
  subst hF ha0 hL0
  simp only [PT] at J1_2_5_6_7 ⊢
  have hHeld := HS2.out _ HXj.out
  refine wpAnyH_ready (rs := [6]) (by kernel_rfl) (by simp) ?_
  refine .cons rfl (fun K hK => ?_) .nil
  go_simp
  have HB39 := hJ ((Below.refl v.heap.size v).alloc (Nat.le_refl _) (.cells #[.int .i64 0, .int .i64 0] 25))
  have HP39 := hJ (BX.lit v 25 #[.int .i64 0, .int .i64 0])
  obtain ⟨v39, hV⟩ := nmz (World.alloc v (.cells #[.int .i64 0, .int .i64 0] 25))
  obtain ⟨g1_6, hg⟩ := nmz (v.heap.size)
  rw [hV] at HB39 HP39 ⊢
  rw [hg] at HP39 ⊢
  have HG39 := hJ (show x1.heap.size ≤ g1_6 by rw [← hg]; exact HXj.out.size)
  have HN39g1_7 := hJ (show g1_7 ≠ g1_6 by have := HPg1_7j.out.lt; rw [hg] at this; omega)
  clear hV hg
  have HX39 := hJ (bt HXj.out HB39.out)
  have HP39g1_7 := hJ (BX.new HPg1_7j.out HB39.out)
  clear hHeld
  refine hK.out _ _ (HS2.out _ HX39.out) (fun hHeld => ?_)
  clear hK K
  try simp only [PT]
  exact wpAnyH_cast (by kernel_rfl) (J1_2_5_6_7 g1_6 g1_7 v39 HX39 HP39 HG39 HP39g1_7 HGg1_7j (hJ HN39g1_7.out.symm))
 have J1_2_6_7 : ∀ (g1_6 : Nat) (g1_7 : Nat) (v : World), Hid (Below x1.heap.size x1 v) → Hid (BX 25 v g1_6 #[.int .i64 0, .int .i64 0]) → Hid (x1.heap.size ≤ g1_6) → Hid (BX 25 v g1_7 #[.int .i64 0, .int .i64 0]) → Hid (x1.heap.size ≤ g1_7) → Hid (g1_6 ≠ g1_7) → F 3 (Array.setIfInBounds (Array.setIfInBounds (Array.setIfInBounds L0 2 true) 6 true) 7 true) (Act.put (Act.put (Act.put a0 (some 15) (.agg #[.int .i64 (ax - px), .int .i64 (ay - py)])) (some 7) (.pointer (some ⟨g1_6, 0, none⟩))) (some 8) (.pointer (some ⟨g1_7, 0, none⟩))) v := by
  intro g1_6 g1_7 v HXj HPg1_6j HGg1_6j HPg1_7j HGg1_7j HNg1_6g1_7j
  subst hF ha0 hL0
  simp only [PT] at J1_2_5_6_7 ⊢
  have hHeld := HS2.out _ HXj.out
  refine wpAnyH_ready (rs := [5]) (by kernel_rfl) (by simp) ?_
  refine .cons rfl (fun K hK => ?_) .nil
  go_simp
  go_at_call 34
  refine (away_any px py bx by' v (nk_i HD.out.2.1) (nk_i HD.out.2.2)).mono ?_
  rintro e v40 ⟨rfl, hb⟩
  have HB40 := hJ hb
  clear hb
  go_wp2_with fail
  have HX40 := hJ (bt HXj.out HB40.out)
  have HP40g1_6 := hJ (BX.new HPg1_6j.out HB40.out)
  have HP40g1_7 := hJ (BX.new HPg1_7j.out HB40.out)
  clear hHeld
  refine hK.out _ _ (HS2.out _ HX40.out) (fun hHeld => ?_)
  clear hK K
  try simp only [PT]
  exact wpAnyH_cast (by kernel_rfl) (J1_2_5_6_7 g1_6 g1_7 v40 HX40 HP40g1_6 HGg1_6j HP40g1_7 HGg1_7j (hJ HNg1_6g1_7j.out))
 have J1_2_5 : ∀ (v : World), Hid (Below x1.heap.size x1 v) → F 4 (Array.setIfInBounds (Array.setIfInBounds L0 2 true) 5 true) (Act.put (Act.put a0 (some 15) (.agg #[.int .i64 (ax - px), .int .i64 (ay - py)])) (some 18) (.agg #[.int .i64 (bx - px), .int .i64 (by' - py)])) v := by
  intro  v HXj
  subst hF ha0 hL0
  simp only [PT] at J1_2_5_6 J1_2_5_7 ⊢
  have hHeld := HS2.out _ HXj.out
  refine wpAnyH_ready (rs := [6, 7]) (by kernel_rfl) (by simp) ?_
  refine .cons rfl (fun K hK => ?_) ?_
  go_simp
  have HB41 := hJ ((Below.refl v.heap.size v).alloc (Nat.le_refl _) (.cells #[.int .i64 0, .int .i64 0] 25))
  have HP41 := hJ (BX.lit v 25 #[.int .i64 0, .int .i64 0])
  obtain ⟨v41, hV⟩ := nmz (World.alloc v (.cells #[.int .i64 0, .int .i64 0] 25))
  obtain ⟨g1_6, hg⟩ := nmz (v.heap.size)
  rw [hV] at HB41 HP41 ⊢
  rw [hg] at HP41 ⊢
  have HG41 := hJ (show x1.heap.size ≤ g1_6 by rw [← hg]; exact HXj.out.size)
  clear hV hg
  have HX41 := hJ (bt HXj.out HB41.out)
  clear hHeld
  refine hK.out _ _ (HS2.out _ HX41.out) (fun hHeld => ?_)
  clear hK K
  try simp only [PT]
  exact wpAnyH_cast (by kernel_rfl) (J1_2_5_6 g1_6 v41 HX41 HP41 HG41)
  refine .cons rfl (fun K hK => ?_) .nil
  go_simp
  have HB42 := hJ ((Below.refl v.heap.size v).alloc (Nat.le_refl _) (.cells #[.int .i64 0, .int .i64 0] 25))
  have HP42 := hJ (BX.lit v 25 #[.int .i64 0, .int .i64 0])
  obtain ⟨v42, hV⟩ := nmz (World.alloc v (.cells #[.int .i64 0, .int .i64 0] 25))
  obtain ⟨g1_7, hg⟩ := nmz (v.heap.size)
  rw [hV] at HB42 HP42 ⊢
  rw [hg] at HP42 ⊢
  have HG42 := hJ (show x1.heap.size ≤ g1_7 by rw [← hg]; exact HXj.out.size)
  clear hV hg
  have HX42 := hJ (bt HXj.out HB42.out)
  clear hHeld
  refine hK.out _ _ (HS2.out _ HX42.out) (fun hHeld => ?_)
  clear hK K
  try simp only [PT]
  exact wpAnyH_cast (by kernel_rfl) (J1_2_5_7 g1_7 v42 HX42 HP42 HG42)
 have J1_2_6 : ∀ (g1_6 : Nat) (v : World), Hid (Below x1.heap.size x1 v) → Hid (BX 25 v g1_6 #[.int .i64 0, .int .i64 0]) → Hid (x1.heap.size ≤ g1_6) → F 4 (Array.setIfInBounds (Array.setIfInBounds L0 2 true) 6 true) (Act.put (Act.put a0 (some 15) (.agg #[.int .i64 (ax - px), .int .i64 (ay - py)])) (some 7) (.pointer (some ⟨g1_6, 0, none⟩))) v := by
  intro g1_6 v HXj HPg1_6j HGg1_6j
  subst hF ha0 hL0
  simp only [PT] at J1_2_5_6 J1_2_6_7 ⊢
  have hHeld := HS2.out _ HXj.out
  refine wpAnyH_ready (rs := [5, 7]) (by kernel_rfl) (by simp) ?_
  refine .cons rfl (fun K hK => ?_) ?_
  go_simp
  go_at_call 34
  refine (away_any px py bx by' v (nk_i HD.out.2.1) (nk_i HD.out.2.2)).mono ?_
  rintro e v43 ⟨rfl, hb⟩
  have HB43 := hJ hb
  clear hb
  go_wp2_with fail
  have HX43 := hJ (bt HXj.out HB43.out)
  have HP43g1_6 := hJ (BX.new HPg1_6j.out HB43.out)
  clear hHeld
  refine hK.out _ _ (HS2.out _ HX43.out) (fun hHeld => ?_)
  clear hK K
  try simp only [PT]
  exact wpAnyH_cast (by kernel_rfl) (J1_2_5_6 g1_6 v43 HX43 HP43g1_6 HGg1_6j)
  refine .cons rfl (fun K hK => ?_) .nil
  go_simp
  have HB44 := hJ ((Below.refl v.heap.size v).alloc (Nat.le_refl _) (.cells #[.int .i64 0, .int .i64 0] 25))
  have HP44 := hJ (BX.lit v 25 #[.int .i64 0, .int .i64 0])
  obtain ⟨v44, hV⟩ := nmz (World.alloc v (.cells #[.int .i64 0, .int .i64 0] 25))
  obtain ⟨g1_7, hg⟩ := nmz (v.heap.size)
  rw [hV] at HB44 HP44 ⊢
  rw [hg] at HP44 ⊢
  have HG44 := hJ (show x1.heap.size ≤ g1_7 by rw [← hg]; exact HXj.out.size)
  have HN44g1_6 := hJ (show g1_6 ≠ g1_7 by have := HPg1_6j.out.lt; rw [hg] at this; omega)
  clear hV hg
  have HX44 := hJ (bt HXj.out HB44.out)
  have HP44g1_6 := hJ (BX.new HPg1_6j.out HB44.out)
  clear hHeld
  refine hK.out _ _ (HS2.out _ HX44.out) (fun hHeld => ?_)
  clear hK K
  try simp only [PT]
  exact wpAnyH_cast (by kernel_rfl) (J1_2_6_7 g1_6 g1_7 v44 HX44 HP44g1_6 HGg1_6j HP44 HG44 (hJ HN44g1_6.out))
 have J1_2_7 : ∀ (g1_7 : Nat) (v : World), Hid (Below x1.heap.size x1 v) → Hid (BX 25 v g1_7 #[.int .i64 0, .int .i64 0]) → Hid (x1.heap.size ≤ g1_7) → F 4 (Array.setIfInBounds (Array.setIfInBounds L0 2 true) 7 true) (Act.put (Act.put a0 (some 15) (.agg #[.int .i64 (ax - px), .int .i64 (ay - py)])) (some 8) (.pointer (some ⟨g1_7, 0, none⟩))) v := by
  intro g1_7 v HXj HPg1_7j HGg1_7j
  subst hF ha0 hL0
  simp only [PT] at J1_2_5_7 J1_2_6_7 ⊢
  have hHeld := HS2.out _ HXj.out
  refine wpAnyH_ready (rs := [5, 6]) (by kernel_rfl) (by simp) ?_
  refine .cons rfl (fun K hK => ?_) ?_
  go_simp
  go_at_call 34
  refine (away_any px py bx by' v (nk_i HD.out.2.1) (nk_i HD.out.2.2)).mono ?_
  rintro e v45 ⟨rfl, hb⟩
  have HB45 := hJ hb
  clear hb
  go_wp2_with fail
  have HX45 := hJ (bt HXj.out HB45.out)
  have HP45g1_7 := hJ (BX.new HPg1_7j.out HB45.out)
  clear hHeld
  refine hK.out _ _ (HS2.out _ HX45.out) (fun hHeld => ?_)
  clear hK K
  try simp only [PT]
  exact wpAnyH_cast (by kernel_rfl) (J1_2_5_7 g1_7 v45 HX45 HP45g1_7 HGg1_7j)
  refine .cons rfl (fun K hK => ?_) .nil
  go_simp
  have HB46 := hJ ((Below.refl v.heap.size v).alloc (Nat.le_refl _) (.cells #[.int .i64 0, .int .i64 0] 25))
  have HP46 := hJ (BX.lit v 25 #[.int .i64 0, .int .i64 0])
  obtain ⟨v46, hV⟩ := nmz (World.alloc v (.cells #[.int .i64 0, .int .i64 0] 25))
  obtain ⟨g1_6, hg⟩ := nmz (v.heap.size)
  rw [hV] at HB46 HP46 ⊢
  rw [hg] at HP46 ⊢
  have HG46 := hJ (show x1.heap.size ≤ g1_6 by rw [← hg]; exact HXj.out.size)
  have HN46g1_7 := hJ (show g1_7 ≠ g1_6 by have := HPg1_7j.out.lt; rw [hg] at this; omega)
  clear hV hg
  have HX46 := hJ (bt HXj.out HB46.out)
  have HP46g1_7 := hJ (BX.new HPg1_7j.out HB46.out)
  clear hHeld
  refine hK.out _ _ (HS2.out _ HX46.out) (fun hHeld => ?_)
  clear hK K
  try simp only [PT]
  exact wpAnyH_cast (by kernel_rfl) (J1_2_6_7 g1_6 g1_7 v46 HX46 HP46 HG46 HP46g1_7 HGg1_7j (hJ HN46g1_7.out.symm))
 have J1_6_7 : ∀ (g1_6 : Nat) (g1_7 : Nat) (v : World), Hid (Below x1.heap.size x1 v) → Hid (BX 25 v g1_6 #[.int .i64 0, .int .i64 0]) → Hid (x1.heap.size ≤ g1_6) → Hid (BX 25 v g1_7 #[.int .i64 0, .int .i64 0]) → Hid (x1.heap.size ≤ g1_7) → Hid (g1_6 ≠ g1_7) → F 4 (Array.setIfInBounds (Array.setIfInBounds L0 6 true) 7 true) (Act.put (Act.put a0 (some 7) (.pointer (some ⟨g1_6, 0, none⟩))) (some 8) (.pointer (some ⟨g1_7, 0, none⟩))) v := by
  intro g1_6 g1_7 v HXj HPg1_6j HGg1_6j HPg1_7j HGg1_7j HNg1_6g1_7j
  subst hF ha0 hL0
  simp only [PT] at J1_2_6_7 ⊢
  have hHeld := HS2.out _ HXj.out
  refine wpAnyH_ready (rs := [2]) (by kernel_rfl) (by simp) ?_
  refine .cons rfl (fun K hK => ?_) .nil
  go_simp
  go_at_call 34
  refine (away_any px py ax ay v (nk_i HD.out.1.1) (nk_i HD.out.1.2)).mono ?_
  rintro e v47 ⟨rfl, hb⟩
  have HB47 := hJ hb
  clear hb
  go_wp2_with fail
  have HX47 := hJ (bt HXj.out HB47.out)
  have HP47g1_6 := hJ (BX.new HPg1_6j.out HB47.out)
  have HP47g1_7 := hJ (BX.new HPg1_7j.out HB47.out)
  clear hHeld
  refine hK.out _ _ (HS2.out _ HX47.out) (fun hHeld => ?_)
  clear hK K
  try simp only [PT]
  exact wpAnyH_cast (by kernel_rfl) (J1_2_6_7 g1_6 g1_7 v47 HX47 HP47g1_6 HGg1_6j HP47g1_7 HGg1_7j (hJ HNg1_6g1_7j.out))
 have J1_2 : ∀ (v : World), Hid (Below x1.heap.size x1 v) → F 5 (Array.setIfInBounds L0 2 true) (Act.put a0 (some 15) (.agg #[.int .i64 (ax - px), .int .i64 (ay - py)])) v := by
  intro  v HXj
  subst hF ha0 hL0
  simp only [PT] at J1_2_5 J1_2_6 J1_2_7 ⊢
  have hHeld := HS2.out _ HXj.out
  refine wpAnyH_ready (rs := [5, 6, 7]) (by kernel_rfl) (by simp) ?_
  refine .cons rfl (fun K hK => ?_) ?_
  go_simp
  go_at_call 34
  refine (away_any px py bx by' v (nk_i HD.out.2.1) (nk_i HD.out.2.2)).mono ?_
  rintro e v48 ⟨rfl, hb⟩
  have HB48 := hJ hb
  clear hb
  go_wp2_with fail
  have HX48 := hJ (bt HXj.out HB48.out)
  clear hHeld
  refine hK.out _ _ (HS2.out _ HX48.out) (fun hHeld => ?_)
  clear hK K
  try simp only [PT]
  exact wpAnyH_cast (by kernel_rfl) (J1_2_5  v48 HX48)
  refine .cons rfl (fun K hK => ?_) ?_
  go_simp
  have HB49 := hJ ((Below.refl v.heap.size v).alloc (Nat.le_refl _) (.cells #[.int .i64 0, .int .i64 0] 25))
  have HP49 := hJ (BX.lit v 25 #[.int .i64 0, .int .i64 0])
  obtain ⟨v49, hV⟩ := nmz (World.alloc v (.cells #[.int .i64 0, .int .i64 0] 25))
  obtain ⟨g1_6, hg⟩ := nmz (v.heap.size)
  rw [hV] at HB49 HP49 ⊢
  rw [hg] at HP49 ⊢
  have HG49 := hJ (show x1.heap.size ≤ g1_6 by rw [← hg]; exact HXj.out.size)
  clear hV hg
  have HX49 := hJ (bt HXj.out HB49.out)
  clear hHeld
  refine hK.out _ _ (HS2.out _ HX49.out) (fun hHeld => ?_)
  clear hK K
  try simp only [PT]
  exact wpAnyH_cast (by kernel_rfl) (J1_2_6 g1_6 v49 HX49 HP49 HG49)
  refine .cons rfl (fun K hK => ?_) .nil
  go_simp
  have HB50 := hJ ((Below.refl v.heap.size v).alloc (Nat.le_refl _) (.cells #[.int .i64 0, .int .i64 0] 25))
  have HP50 := hJ (BX.lit v 25 #[.int .i64 0, .int .i64 0])
  obtain ⟨v50, hV⟩ := nmz (World.alloc v (.cells #[.int .i64 0, .int .i64 0] 25))
  obtain ⟨g1_7, hg⟩ := nmz (v.heap.size)
  rw [hV] at HB50 HP50 ⊢
  rw [hg] at HP50 ⊢
  have HG50 := hJ (show x1.heap.size ≤ g1_7 by rw [← hg]; exact HXj.out.size)
  clear hV hg
  have HX50 := hJ (bt HXj.out HB50.out)
  clear hHeld
  refine hK.out _ _ (HS2.out _ HX50.out) (fun hHeld => ?_)
  clear hK K
  try simp only [PT]
  exact wpAnyH_cast (by kernel_rfl) (J1_2_7 g1_7 v50 HX50 HP50 HG50)
 have J1_6 : ∀ (g1_6 : Nat) (v : World), Hid (Below x1.heap.size x1 v) → Hid (BX 25 v g1_6 #[.int .i64 0, .int .i64 0]) → Hid (x1.heap.size ≤ g1_6) → F 5 (Array.setIfInBounds L0 6 true) (Act.put a0 (some 7) (.pointer (some ⟨g1_6, 0, none⟩))) v := by
  intro g1_6 v HXj HPg1_6j HGg1_6j
  subst hF ha0 hL0
  simp only [PT] at J1_2_6 J1_6_7 ⊢
  have hHeld := HS2.out _ HXj.out
  refine wpAnyH_ready (rs := [2, 7]) (by kernel_rfl) (by simp) ?_
  refine .cons rfl (fun K hK => ?_) ?_
  go_simp
  go_at_call 34
  refine (away_any px py ax ay v (nk_i HD.out.1.1) (nk_i HD.out.1.2)).mono ?_
  rintro e v51 ⟨rfl, hb⟩
  have HB51 := hJ hb
  clear hb
  go_wp2_with fail
  have HX51 := hJ (bt HXj.out HB51.out)
  have HP51g1_6 := hJ (BX.new HPg1_6j.out HB51.out)
  clear hHeld
  refine hK.out _ _ (HS2.out _ HX51.out) (fun hHeld => ?_)
  clear hK K
  try simp only [PT]
  exact wpAnyH_cast (by kernel_rfl) (J1_2_6 g1_6 v51 HX51 HP51g1_6 HGg1_6j)
  refine .cons rfl (fun K hK => ?_) .nil
  go_simp
  have HB52 := hJ ((Below.refl v.heap.size v).alloc (Nat.le_refl _) (.cells #[.int .i64 0, .int .i64 0] 25))
  have HP52 := hJ (BX.lit v 25 #[.int .i64 0, .int .i64 0])
  obtain ⟨v52, hV⟩ := nmz (World.alloc v (.cells #[.int .i64 0, .int .i64 0] 25))
  obtain ⟨g1_7, hg⟩ := nmz (v.heap.size)
  rw [hV] at HB52 HP52 ⊢
  rw [hg] at HP52 ⊢
  have HG52 := hJ (show x1.heap.size ≤ g1_7 by rw [← hg]; exact HXj.out.size)
  have HN52g1_6 := hJ (show g1_6 ≠ g1_7 by have := HPg1_6j.out.lt; rw [hg] at this; omega)
  clear hV hg
  have HX52 := hJ (bt HXj.out HB52.out)
  have HP52g1_6 := hJ (BX.new HPg1_6j.out HB52.out)
  clear hHeld
  refine hK.out _ _ (HS2.out _ HX52.out) (fun hHeld => ?_)
  clear hK K
  try simp only [PT]
  exact wpAnyH_cast (by kernel_rfl) (J1_6_7 g1_6 g1_7 v52 HX52 HP52g1_6 HGg1_6j HP52 HG52 (hJ HN52g1_6.out))
 have J1_7 : ∀ (g1_7 : Nat) (v : World), Hid (Below x1.heap.size x1 v) → Hid (BX 25 v g1_7 #[.int .i64 0, .int .i64 0]) → Hid (x1.heap.size ≤ g1_7) → F 5 (Array.setIfInBounds L0 7 true) (Act.put a0 (some 8) (.pointer (some ⟨g1_7, 0, none⟩))) v := by
  intro g1_7 v HXj HPg1_7j HGg1_7j
  subst hF ha0 hL0
  simp only [PT] at J1_2_7 J1_6_7 ⊢
  have hHeld := HS2.out _ HXj.out
  refine wpAnyH_ready (rs := [2, 6]) (by kernel_rfl) (by simp) ?_
  refine .cons rfl (fun K hK => ?_) ?_
  go_simp
  go_at_call 34
  refine (away_any px py ax ay v (nk_i HD.out.1.1) (nk_i HD.out.1.2)).mono ?_
  rintro e v53 ⟨rfl, hb⟩
  have HB53 := hJ hb
  clear hb
  go_wp2_with fail
  have HX53 := hJ (bt HXj.out HB53.out)
  have HP53g1_7 := hJ (BX.new HPg1_7j.out HB53.out)
  clear hHeld
  refine hK.out _ _ (HS2.out _ HX53.out) (fun hHeld => ?_)
  clear hK K
  try simp only [PT]
  exact wpAnyH_cast (by kernel_rfl) (J1_2_7 g1_7 v53 HX53 HP53g1_7 HGg1_7j)
  refine .cons rfl (fun K hK => ?_) .nil
  go_simp
  have HB54 := hJ ((Below.refl v.heap.size v).alloc (Nat.le_refl _) (.cells #[.int .i64 0, .int .i64 0] 25))
  have HP54 := hJ (BX.lit v 25 #[.int .i64 0, .int .i64 0])
  obtain ⟨v54, hV⟩ := nmz (World.alloc v (.cells #[.int .i64 0, .int .i64 0] 25))
  obtain ⟨g1_6, hg⟩ := nmz (v.heap.size)
  rw [hV] at HB54 HP54 ⊢
  rw [hg] at HP54 ⊢
  have HG54 := hJ (show x1.heap.size ≤ g1_6 by rw [← hg]; exact HXj.out.size)
  have HN54g1_7 := hJ (show g1_7 ≠ g1_6 by have := HPg1_7j.out.lt; rw [hg] at this; omega)
  clear hV hg
  have HX54 := hJ (bt HXj.out HB54.out)
  have HP54g1_7 := hJ (BX.new HPg1_7j.out HB54.out)
  clear hHeld
  refine hK.out _ _ (HS2.out _ HX54.out) (fun hHeld => ?_)
  clear hK K
  try simp only [PT]
  exact wpAnyH_cast (by kernel_rfl) (J1_6_7 g1_6 g1_7 v54 HX54 HP54 HG54 HP54g1_7 HGg1_7j (hJ HN54g1_7.out.symm))
 subst hF ha0 hL0
 simp only [PT] at J1_2 J1_6 J1_7
 refine wpAnyH_ready (rs := [2, 6, 7]) (by kernel_rfl) (by simp) ?_
 refine .cons rfl (fun K hK => ?_) ?_
 go_simp
 go_at_call 34
 refine (away_any px py ax ay v2 (nk_i HD.out.1.1) (nk_i HD.out.1.2)).mono ?_
 rintro e v55 ⟨rfl, hb⟩
 have HB55 := hJ hb
 clear hb
 go_wp2_with fail
 have HX55 := hJ (bt HX2.out HB55.out)
 clear hHeld
 refine hK.out _ _ (HS2.out _ HX55.out) (fun hHeld => ?_)
 clear hK K
 try simp only [PT]
 exact wpAnyH_cast (by kernel_rfl) (J1_2  v55 HX55)
 refine .cons rfl (fun K hK => ?_) ?_
 go_simp
 have HB56 := hJ ((Below.refl v2.heap.size v2).alloc (Nat.le_refl _) (.cells #[.int .i64 0, .int .i64 0] 25))
 have HP56 := hJ (BX.lit v2 25 #[.int .i64 0, .int .i64 0])
 obtain ⟨v56, hV⟩ := nmz (World.alloc v2 (.cells #[.int .i64 0, .int .i64 0] 25))
 obtain ⟨g1_6, hg⟩ := nmz (v2.heap.size)
 rw [hV] at HB56 HP56 ⊢
 rw [hg] at HP56 ⊢
 have HG56 := hJ (show x1.heap.size ≤ g1_6 by rw [← hg]; exact HX2.out.size)
 clear hV hg
 have HX56 := hJ (bt HX2.out HB56.out)
 clear hHeld
 refine hK.out _ _ (HS2.out _ HX56.out) (fun hHeld => ?_)
 clear hK K
 try simp only [PT]
 exact wpAnyH_cast (by kernel_rfl) (J1_6 g1_6 v56 HX56 HP56 HG56)
 refine .cons rfl (fun K hK => ?_) .nil
 go_simp
 have HB57 := hJ ((Below.refl v2.heap.size v2).alloc (Nat.le_refl _) (.cells #[.int .i64 0, .int .i64 0] 25))
 have HP57 := hJ (BX.lit v2 25 #[.int .i64 0, .int .i64 0])
 obtain ⟨v57, hV⟩ := nmz (World.alloc v2 (.cells #[.int .i64 0, .int .i64 0] 25))
 obtain ⟨g1_7, hg⟩ := nmz (v2.heap.size)
 rw [hV] at HB57 HP57 ⊢
 rw [hg] at HP57 ⊢
 have HG57 := hJ (show x1.heap.size ≤ g1_7 by rw [← hg]; exact HX2.out.size)
 clear hV hg
 have HX57 := hJ (bt HX2.out HB57.out)
 clear hHeld
 refine hK.out _ _ (HS2.out _ HX57.out) (fun hHeld => ?_)
 clear hK K
 try simp only [PT]
 exact wpAnyH_cast (by kernel_rfl) (J1_7 g1_7 v57 HX57 HP57 HG57)
end Go.Proofs.Ytdamadkhbeonaaa
