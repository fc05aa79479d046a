/- Contract: Circle. Conditions: none. -/
import Derived.Test.YtdamadkhbeonaaaEG
namespace Go.Proofs.Ytdamadkhbeonaaa
open Go.RowKit
attribute [local go_sem ↓] Go.wp_at_zero Go.wp_at_succ
set_option linter.unusedVariables false
set_option linter.unusedSimpArgs false
/-- The error and the value of Circle. -/
def crE (ax ay bx by' cx cy dx dy : Int) : Int := if fsE vdP [(ax, ay), (bx, by'), (cx, cy), (dx, dy)] = 0 then (if sdV ax ay bx by' cx cy = 0 then 1 else 0) else fsE vdP [(ax, ay), (bx, by'), (cx, cy), (dx, dy)]
def crV (ax ay bx by' cx cy dx dy : Int) : Int := if fsE vdP [(ax, ay), (bx, by'), (cx, cy), (dx, dy)] = 0 then ciV ax ay bx by' cx cy dx dy else 0
theorem cr_flat {ax ay bx by' cx cy dx dy : Int} (h : fsE vdP [(ax, ay), (bx, by'), (cx, cy), (dx, dy)] = 0) (h0 : sdV ax ay bx by' cx cy = 0) : crV ax ay bx by' cx cy dx dy = 0 ∧ crE ax ay bx by' cx cy dx dy = 1 :=
 ⟨by rw [crV, if_pos h, ciV, h0, Int.zero_mul], by rw [crE, if_pos h, if_pos h0]⟩
theorem cr_round {ax ay bx by' cx cy dx dy sd : Int} (h : fsE vdP [(ax, ay), (bx, by'), (cx, cy), (dx, dy)] = 0) (hs : sdV ax ay bx by' cx cy = sd) (h0 : sd ≠ 0) : crV ax ay bx by' cx cy dx dy = sd * cmpI (arV ax ay bx by' cx cy dx dy) 0 ∧ crE ax ay bx by' cx cy dx dy = 0 :=
 ⟨by rw [crV, if_pos h, ciV, hs], by rw [crE, if_pos h, if_neg (by rw [hs]; exact h0)]⟩
theorem ah_nk {ax ay bx by' px py : Int} (ha : Nk 1073741824 ax ∧ Nk 1073741824 ay) (hb : Nk 1073741824 bx ∧ Nk 1073741824 by') (hp : Nk 1073741824 px ∧ Nk 1073741824 py) : Nk 9223372036854775808 (ahV ax ay bx by' px py) ∧ Nk 9223372036854775808 (lfV ax ay bx by' px py) :=
 ⟨nk_add (nk_mul (nk_diff ha.1 hp.1) (nk_diff hb.1 hp.1)) (nk_mul (nk_diff ha.2 hp.2) (nk_diff hb.2 hp.2)), nk_sub (nk_mul (nk_diff ha.1 hp.1) (nk_diff hb.2 hp.2)) (nk_mul (nk_diff ha.2 hp.2) (nk_diff hb.1 hp.1))⟩
theorem ar_nk {ax ay bx by' cx cy dx dy : Int} (h : (Nk 1073741824 ax ∧ Nk 1073741824 ay) ∧ (Nk 1073741824 bx ∧ Nk 1073741824 by') ∧ (Nk 1073741824 cx ∧ Nk 1073741824 cy) ∧ (Nk 1073741824 dx ∧ Nk 1073741824 dy)) :
  Nk 1180591620717411303424 0 ∧ Nk 1180591620717411303424 0 ∧ Nk 1180591620717411303424 (ahV ax ay bx by' cx cy) ∧ Nk 1180591620717411303424 (lfV ax ay bx by' cx cy) ∧ Nk 1180591620717411303424 (ahV ax ay bx by' dx dy) ∧ Nk 1180591620717411303424 (lfV ax ay bx by' dx dy) := by
 have h1 := ah_nk h.1 h.2.1 h.2.2.1
 have h2 := ah_nk h.1 h.2.1 h.2.2.2
 exact ⟨by unfold Nk; omega, by unfold Nk; omega, nk_le h1.1 (by decide), nk_le h1.2 (by decide), nk_le h2.1 (by decide), nk_le h2.2 (by decide)⟩
theorem ar_lim {ax ay bx by' cx cy dx dy : Int} (h : (Nk 1073741824 ax ∧ Nk 1073741824 ay) ∧ (Nk 1073741824 bx ∧ Nk 1073741824 by') ∧ (Nk 1073741824 cx ∧ Nk 1073741824 cy) ∧ (Nk 1073741824 dx ∧ Nk 1073741824 dy)) : (arV ax ay bx by' cx cy dx dy).natAbs < lim := by
 have h1 := ah_nk h.1 h.2.1 h.2.2.1
 have h2 := ah_nk h.1 h.2.1 h.2.2.2
 exact nk_lim (nk_sub (nk_mul h1.1 h2.2) (nk_mul h1.2 h2.1))
theorem ar_zero {p q r s : Int} : (p - 0) * (q - 0) - (r - 0) * (s - 0) = p * q - r * s := by simp only [Int.sub_zero]
theorem cm_bound (a b : Int) : cmpI a b = -1 ∨ cmpI a b = 0 ∨ cmpI a b = 1 := by
 rcases cmpI_is a b with ⟨_, h⟩ | ⟨_, h⟩ | ⟨_, h⟩
 ·exact .inl h
 ·exact .inr (.inl h)
 ·exact .inr (.inr h)
theorem sg_prod (a b c d : Int) : I6 (cmpI a b * cmpI c d) := by
 rcases cm_bound a b with h | h | h <;> rcases cm_bound c d with g | g | g <;> rw [h, g] <;> exact ⟨by decide, by decide⟩
set_option maxRecDepth 100000 in
set_option maxHeartbeats 6400000 in
theorem circle_any (ax ay bx by' cx cy dx dy : Int) (w : World) :
  Calls Try.prog 10 #[.agg #[.int .i64 ax, .int .i64 ay], .agg #[.int .i64 bx, .int .i64 by'], .agg #[.int .i64 cx, .int .i64 cy], .agg #[.int .i64 dx, .int .i64 dy]] w fun e w' => e = .returned (.tuple #[.int .i64 (crV ax ay bx by' cx cy dx dy), .int .i64 (crE ax ay bx by' cx cy dx dy)]) ∧ Below w.heap.size w w' := by
 obtain ⟨E, hE⟩ := nmz (fsE vdP [(ax, ay), (bx, by'), (cx, cy), (dx, dy)])
 have HE := hJ hE
 clear hE
 obtain ⟨sd, hsd⟩ := nmz (sdV ax ay bx by' cx cy)
 have HS := hJ hsd
 clear hsd
 have HZ0 := hJ (PI.zero w)
 obtain ⟨x1, hx1⟩ := nmz ((((w.alloc (.cells #[.int .i64 ax, .int .i64 ay] 25)).alloc (.cells #[.int .i64 bx, .int .i64 by'] 25)).alloc (.cells #[.int .i64 cx, .int .i64 cy] 25)).alloc (.cells #[.int .i64 dx, .int .i64 dy] 25))
 have HB1 := hJ (show Below w.heap.size w x1 by rw [← hx1]; exact (((((Below.refl _ _).alloc (Nat.le_refl _) _).alloc (by simp only [World.size_alloc]; omega) _).alloc (by simp only [World.size_alloc]; omega) _).alloc (by simp only [World.size_alloc]; omega) _))
 have HQ1x0 := hJ (show BX 25 x1 w.heap.size #[.int .i64 ax, .int .i64 ay] by rw [← hx1]; exact ((((BX.at rfl).alloc _).alloc _).alloc _))
 have HG1x0 := hJ (show w.heap.size ≤ w.heap.size by omega)
 have HL1x0 := hJ (show w.heap.size < x1.heap.size from HQ1x0.out.lt)
 have HQ1x1 := hJ (show BX 25 x1 (w.heap.size + 1) #[.int .i64 bx, .int .i64 by'] by rw [← hx1]; exact (((BX.at (by simp only [World.size_alloc])).alloc _).alloc _))
 have HG1x1 := hJ (show w.heap.size ≤ w.heap.size + 1 by omega)
 have HL1x1 := hJ (show w.heap.size + 1 < x1.heap.size from HQ1x1.out.lt)
 have HQ1x2 := hJ (show BX 25 x1 (w.heap.size + 2) #[.int .i64 cx, .int .i64 cy] by rw [← hx1]; exact ((BX.at (by simp only [World.size_alloc])).alloc _))
 have HG1x2 := hJ (show w.heap.size ≤ w.heap.size + 2 by omega)
 have HL1x2 := hJ (show w.heap.size + 2 < x1.heap.size from HQ1x2.out.lt)
 have HQ1x3 := hJ (show BX 25 x1 (w.heap.size + 3) #[.int .i64 dx, .int .i64 dy] by rw [← hx1]; exact (BX.at (by simp only [World.size_alloc])))
 have HG1x3 := hJ (show w.heap.size ≤ w.heap.size + 3 by omega)
 have HL1x3 := hJ (show w.heap.size + 3 < x1.heap.size from HQ1x3.out.lt)
 obtain ⟨cl2, cl3⟩ := HQ1x0.out.c2 0 1 rfl rfl
 obtain ⟨cl4, cl5⟩ := HQ1x1.out.c2 0 1 rfl rfl
 obtain ⟨cl6, cl7⟩ := HQ1x2.out.c2 0 1 rfl rfl
 obtain ⟨cl8, cl9⟩ := HQ1x3.out.c2 0 1 rfl rfl
 obtain ⟨x10, hx10⟩ := nmz (x1.alloc (.cells #[.int .i64 ax, .int .i64 ay, .int .i64 bx, .int .i64 by', .int .i64 cx, .int .i64 cy, .int .i64 dx, .int .i64 dy] 25))
 have HB10 := hJ (show Below x1.heap.size x1 x10 by rw [← hx10]; exact ((Below.refl _ _).alloc (Nat.le_refl _) _))
 have HQ10x0 := hJ (show BX 25 x10 x1.heap.size #[.int .i64 ax, .int .i64 ay, .int .i64 bx, .int .i64 by', .int .i64 cx, .int .i64 cy, .int .i64 dx, .int .i64 dy] by rw [← hx10]; exact (BX.at rfl))
 have HG10x0 := hJ (show x1.heap.size ≤ x1.heap.size by omega)
 have HL10x0 := hJ (show x1.heap.size < x10.heap.size from HQ10x0.out.lt)
 go_enter Try.func10, Try.ntmps10
 go_wp2_with fail
 clear hx1 cl2 cl3 cl4 cl5 cl6 cl7 cl8 cl9 hx10
 refine (valids_any [(ax, ay), (bx, by'), (cx, cy), (dx, dy)] 4 x1.heap.size x10 rfl (by decide) HQ10x0.out).mono ?_
 rw [show fsE vdP [(ax, ay), (bx, by'), (cx, cy), (dx, dy)] = E from HE.out]
 rintro e w11 ⟨rfl, hb⟩
 have HB11 := hJ hb
 clear hb
 by_cases hE0 : E = 0
 ·subst hE0
  have H4 := hJ (And.intro (vd_nk (fs_cons HE.out).1) (And.intro (vd_nk (fs_cons (fs_cons HE.out).2).1) (And.intro (vd_nk (fs_two (fs_cons (fs_cons HE.out).2).2).1) (vd_nk (fs_two (fs_cons (fs_cons HE.out).2).2).2))))
  have HC1_3 := hJ (bt HB10.out HB11.out)
  have HQ1x0w3 := hJ (BX.new HQ1x0.out HC1_3.out)
  obtain ⟨cl12, cl13⟩ := HQ1x0w3.out.c2 0 1 rfl rfl
  have HQ1x1w3 := hJ (BX.new HQ1x1.out HC1_3.out)
  obtain ⟨cl14, cl15⟩ := HQ1x1w3.out.c2 0 1 rfl rfl
  have HQ1x2w3 := hJ (BX.new HQ1x2.out HC1_3.out)
  obtain ⟨cl16, cl17⟩ := HQ1x2w3.out.c2 0 1 rfl rfl
  go_wp2_with fail
  clear cl12 cl13 cl14 cl15 cl16 cl17
  refine (gridside_any ax ay bx by' cx cy w11 (g3_ok H4.out.1 H4.out.2.1 H4.out.2.2.1)).mono ?_
  rw [HS.out]
  rintro e w18 ⟨rfl, hb⟩
  have HB18 := hJ hb
  clear hb
  by_cases hs0 : sd = 0
  ·subst hs0
   have HV := hJ (show crV ax ay bx by' cx cy dx dy = 0 ∧ crE ax ay bx by' cx cy dx dy = 1 from cr_flat HE.out HS.out)
   have HC0_4 := hJ (bt (bt (bt HB1.out HB10.out) HB11.out) HB18.out)
   go_wp2
   go_ret2
   exact ⟨by rw [HV.out.1, HV.out.2] <;> rfl, HC0_4.out⟩
  ·have hsz : (sd == 0) = false := by simp [hs0]
   have HV := hJ (show crV ax ay bx by' cx cy dx dy = sd * cmpI (arV ax ay bx by' cx cy dx dy) 0 ∧ crE ax ay bx by' cx cy dx dy = 0 from cr_round HE.out HS.out hs0)
   clear hs0
   have HQ1x0w4 := hJ (BX.new HQ1x0w3.out HB18.out)
   have HQ1x1w4 := hJ (BX.new HQ1x1w3.out HB18.out)
   have HQ1x2w4 := hJ (BX.new HQ1x2w3.out HB18.out)
   have HC1_4 := hJ (bt HC1_3.out HB18.out)
   have HQ1x3w4 := hJ (BX.new HQ1x3.out HC1_4.out)
   have HS19 : Hid (∀ w', Below w18.heap.size w18 w' → (fun w' : World => w'.cell? ⟨w.heap.size, 0, none⟩ = some (.int .i64 ax) ∧ w'.cell? ⟨w.heap.size, 1, none⟩ = some (.int .i64 ay) ∧ w'.cell? ⟨w.heap.size + 1, 0, none⟩ = some (.int .i64 bx) ∧ w'.cell? ⟨w.heap.size + 1, 1, none⟩ = some (.int .i64 by') ∧ w'.cell? ⟨w.heap.size + 2, 0, none⟩ = some (.int .i64 cx) ∧ w'.cell? ⟨w.heap.size + 2, 1, none⟩ = some (.int .i64 cy) ∧ w'.cell? ⟨w.heap.size + 3, 0, none⟩ = some (.int .i64 dx) ∧ w'.cell? ⟨w.heap.size + 3, 1, none⟩ = some (.int .i64 dy) ∧ Below w18.heap.size w18 w') w') := hJ (fun w' hb => ⟨(BX.new HQ1x0w4.out hb).cell 0 rfl, (BX.new HQ1x0w4.out hb).cell 1 rfl, (BX.new HQ1x1w4.out hb).cell 0 rfl, (BX.new HQ1x1w4.out hb).cell 1 rfl, (BX.new HQ1x2w4.out hb).cell 0 rfl, (BX.new HQ1x2w4.out hb).cell 1 rfl, (BX.new HQ1x3w4.out hb).cell 0 rfl, (BX.new HQ1x3w4.out hb).cell 1 rfl, hb⟩)
   have HC0_4 := hJ (bt (bt (bt HB1.out HB10.out) HB11.out) HB18.out)
   have HZ0w4 := hJ (PIo.new HZ0.out HC0_4.out)
   go_wp2_with fail
   obtain ⟨v19, hv19⟩ := nmz (World.drew w18)
   have HX19 := hJ (show Below w18.heap.size w18 v19 by rw [← hv19]; exact (Below.refl _ _).drew)
   refine wp_region_held_drew (S := (fun w' : World => w'.cell? ⟨w.heap.size, 0, none⟩ = some (.int .i64 ax) ∧ w'.cell? ⟨w.heap.size, 1, none⟩ = some (.int .i64 ay) ∧ w'.cell? ⟨w.heap.size + 1, 0, none⟩ = some (.int .i64 bx) ∧ w'.cell? ⟨w.heap.size + 1, 1, none⟩ = some (.int .i64 by') ∧ w'.cell? ⟨w.heap.size + 2, 0, none⟩ = some (.int .i64 cx) ∧ w'.cell? ⟨w.heap.size + 2, 1, none⟩ = some (.int .i64 cy) ∧ w'.cell? ⟨w.heap.size + 3, 0, none⟩ = some (.int .i64 dx) ∧ w'.cell? ⟨w.heap.size + 3, 1, none⟩ = some (.int .i64 dy) ∧ Below w18.heap.size w18 w')) (by kernel_rfl) ?_ (fun hHeld => ?_)
   ·rw [hv19]
    exact HS19.out _ HX19.out
   rw [hv19] at hHeld ⊢
   clear hv19
   refine tq 0 ?_
   try simp only [PT]
   refine tq 1 ?_
   try simp only [PT]
   refine tq 2 ?_
   try simp only [PT]
   refine tq 3 ?_
   try simp only [PT]
   refine tq 5 ?_
   try simp only [PT]
   refine tq 6 ?_
   try simp only [PT]
   refine tq 7 ?_
   try simp only [PT]
   refine wpAnyH_name (fun F hF a0 ha0 L0 hL0 => ?_)
   have J7_4_8_9_13 : ∀ (s11 : Bool) (A11 : Option Addr) (n11 : Nat) (c11 : Nat) (s12 : Bool) (A12 : Option Addr) (n12 : Nat) (c12 : Nat) (s13 : Bool) (A13 : Option Addr) (n13 : Nat) (c13 : Nat) (s14 : Bool) (A14 : Option Addr) (n14 : Nat) (c14 : Nat) (s15 : Bool) (A15 : Option Addr) (n15 : Nat) (c15 : Nat) (g7_13 : Nat) (v : World), Hid (Below w18.heap.size w18 v) → Hid (PI v s11 A11 n11 c11 (ahV ax ay bx by' cx cy)) → Hid (PI v s12 A12 n12 c12 (lfV ax ay bx by' cx cy)) → Hid (PI v s13 A13 n13 c13 (ahV ax ay bx by' dx dy)) → Hid (PI v s14 A14 n14 c14 (lfV ax ay bx by' dx dy)) → Hid (PI v s15 A15 n15 c15 (arV ax ay bx by' cx cy dx dy)) → Hid (BX 48 v g7_13 #[.bool false, .slice none 0 0]) → Hid (w18.heap.size ≤ g7_13) → F 2 (Array.setIfInBounds (Array.setIfInBounds (Array.setIfInBounds (Array.setIfInBounds (Array.setIfInBounds (Array.setIfInBounds (Array.setIfInBounds L0 4 true) 8 true) 9 true) 13 true) 10 true) 11 true) 12 true) (Act.put (Act.put (Act.put (Act.put (Act.put (Act.put (Act.put a0 (some 34) (.agg #[.bool s11, .slice A11 n11 c11, .bool s12, .slice A12 n12 c12])) (some 38) (.agg #[.bool s13, .slice A13 n13 c13, .bool s14, .slice A14 n14 c14])) (some 39) (.tuple #[.agg #[.bool s15, .slice A15 n15 c15], .int .i64 0])) (some 12) (.pointer (some ⟨g7_13, 0, none⟩))) (some 29) (.tuple #[.agg #[.bool s15, .slice A15 n15 c15], .int .i64 0])) (some 40) (.agg #[.bool s15, .slice A15 n15 c15])) (some 41) (.int .i64 0)) v := by
    intro s11 A11 n11 c11 s12 A12 n12 c12 s13 A13 n13 c13 s14 A14 n14 c14 s15 A15 n15 c15 g7_13 v HXj HZ4hr11j HZ4hr12j HZ8hr13j HZ8hr14j HZ9hr15j HPg7_13j HGg7_13j
    subst hF ha0 hL0
    simp only [PT] at  ⊢
    have hHeld := HS19.out _ HXj.out
    refine wpAnyH_ready (rs := [14]) (by kernel_rfl) (by simp) ?_
    refine .cons rfl (fun K hK => ?_) .nil
    have z20_0 := HPg7_13j.out.cell 0 rfl
    have y20_0 := HPg7_13j.out.frozen 0
    have z20_1 := HPg7_13j.out.cell 1 rfl
    have y20_1 := HPg7_13j.out.frozen 1
    have z20 := HPg7_13j.out.lt
    go_simp
    obtain ⟨v20, hV⟩ := nmz (World.setCell (World.setCell v ⟨g7_13, 0, none⟩ (.bool s15)) ⟨g7_13, 1, none⟩ (.slice A15 n15 c15))
    rw [hV]
    have HE20 := hJ (show sto v g7_13 0 [.bool s15, .slice A15 n15 c15] = v20 from hV)
    clear hV z20 z20_0 y20_0 z20_1 y20_1
    have HX20 := hJ (show Below w18.heap.size w18 v20 by rw [← HE20.out]; exact below_sto HXj.out HGg7_13j.out _ _)
    have HZ20_0 := hJ (show PI v20 s11 A11 n11 c11 (ahV ax ay bx by' cx cy) by rw [← HE20.out]; exact PIo.sto HZ4hr11j.out HPg7_13j.out rfl _ _)
    have HZ20_1 := hJ (show PI v20 s12 A12 n12 c12 (lfV ax ay bx by' cx cy) by rw [← HE20.out]; exact PIo.sto HZ4hr12j.out HPg7_13j.out rfl _ _)
    have HZ20_2 := hJ (show PI v20 s13 A13 n13 c13 (ahV ax ay bx by' dx dy) by rw [← HE20.out]; exact PIo.sto HZ8hr13j.out HPg7_13j.out rfl _ _)
    have HZ20_3 := hJ (show PI v20 s14 A14 n14 c14 (lfV ax ay bx by' dx dy) by rw [← HE20.out]; exact PIo.sto HZ8hr14j.out HPg7_13j.out rfl _ _)
    have HZ20_4 := hJ (show PI v20 s15 A15 n15 c15 (arV ax ay bx by' cx cy dx dy) by rw [← HE20.out]; exact PIo.sto HZ9hr15j.out HPg7_13j.out rfl _ _)
    have HP20g7_13 := hJ (show BX 48 v20 g7_13 #[.bool s15, .slice A15 n15 c15] by rw [← HE20.out]; exact BX.put HPg7_13j.out _ _)
    clear hHeld
    refine hK.out _ _ (HS19.out _ HX20.out) (fun hHeld => ?_)
    clear hK K
    try simp only [PT]
    refine tq 15 ?_
    try simp only [PT]
    refine wpAnyH_done (by kernel_rfl) ?_ _
    clear hHeld
    have HL21 := hJ (show g7_13 < v20.heap.size from HP20g7_13.out.lt)
    obtain ⟨sg, hsg⟩ := nmz (cmpI (arV ax ay bx by' cx cy dx dy) 0)
    have HG := hJ hsg
    have HSW := hJ (show I6 (sd * sg) by rw [← hsg, ← HS.out]; exact sg_prod _ _ _ _)
    clear hsg
    obtain ⟨cl22, cl23⟩ := HP20g7_13.out.c2 0 1 rfl rfl
    go_wp2_with fail
    clear cl22 cl23
    refine (sign_any (arV ax ay bx by' cx cy dx dy) s15 A15 n15 c15 v20 HZ20_4.out (Nat.le_trans (plim HZ20_4.out (ar_lim H4.out)) (by decide))).mono ?_
    rw [HG.out]
    rintro e w24 ⟨rfl, hb⟩
    have HB24 := hJ hb
    clear hb
    have ew8_3 : IntKind.i64.wrap (sd * sg) = sd * sg := i6_wrap HSW.out
    have HC0_6 := hJ (bt (bt HC0_4.out HX20.out) HB24.out)
    go_wp2
    clear ew8_3
    go_ret2
    exact ⟨by rw [HV.out.1, HV.out.2, HG.out] <;> rfl, HC0_6.out⟩
   have J7_4_8_9 : ∀ (s11 : Bool) (A11 : Option Addr) (n11 : Nat) (c11 : Nat) (s12 : Bool) (A12 : Option Addr) (n12 : Nat) (c12 : Nat) (s13 : Bool) (A13 : Option Addr) (n13 : Nat) (c13 : Nat) (s14 : Bool) (A14 : Option Addr) (n14 : Nat) (c14 : Nat) (s15 : Bool) (A15 : Option Addr) (n15 : Nat) (c15 : Nat) (v : World), Hid (Below w18.heap.size w18 v) → Hid (PI v s11 A11 n11 c11 (ahV ax ay bx by' cx cy)) → Hid (PI v s12 A12 n12 c12 (lfV ax ay bx by' cx cy)) → Hid (PI v s13 A13 n13 c13 (ahV ax ay bx by' dx dy)) → Hid (PI v s14 A14 n14 c14 (lfV ax ay bx by' dx dy)) → Hid (PI v s15 A15 n15 c15 (arV ax ay bx by' cx cy dx dy)) → F 3 (Array.setIfInBounds (Array.setIfInBounds (Array.setIfInBounds (Array.setIfInBounds (Array.setIfInBounds (Array.setIfInBounds L0 4 true) 8 true) 9 true) 10 true) 11 true) 12 true) (Act.put (Act.put (Act.put (Act.put (Act.put (Act.put a0 (some 34) (.agg #[.bool s11, .slice A11 n11 c11, .bool s12, .slice A12 n12 c12])) (some 38) (.agg #[.bool s13, .slice A13 n13 c13, .bool s14, .slice A14 n14 c14])) (some 39) (.tuple #[.agg #[.bool s15, .slice A15 n15 c15], .int .i64 0])) (some 29) (.tuple #[.agg #[.bool s15, .slice A15 n15 c15], .int .i64 0])) (some 40) (.agg #[.bool s15, .slice A15 n15 c15])) (some 41) (.int .i64 0)) v := by
    intro s11 A11 n11 c11 s12 A12 n12 c12 s13 A13 n13 c13 s14 A14 n14 c14 s15 A15 n15 c15 v HXj HZ4hr11j HZ4hr12j HZ8hr13j HZ8hr14j HZ9hr15j
    subst hF ha0 hL0
    simp only [PT] at J7_4_8_9_13 ⊢
    have hHeld := HS19.out _ HXj.out
    refine wpAnyH_ready (rs := [13]) (by kernel_rfl) (by simp) ?_
    refine .cons rfl (fun K hK => ?_) .nil
    go_simp
    have HB25 := hJ ((Below.refl v.heap.size v).alloc (Nat.le_refl _) (.cells #[.bool false, .slice none 0 0] 48))
    have HP25 := hJ (BX.lit v 48 #[.bool false, .slice none 0 0])
    obtain ⟨v25, hV⟩ := nmz (World.alloc v (.cells #[.bool false, .slice none 0 0] 48))
    obtain ⟨g7_13, hg⟩ := nmz (v.heap.size)
    rw [hV] at HB25 HP25 ⊢
    rw [hg] at HP25 ⊢
    have HG25 := hJ (show w18.heap.size ≤ g7_13 by rw [← hg]; exact HXj.out.size)
    clear hV hg
    have HX25 := hJ (bt HXj.out HB25.out)
    have HZ25_0 := hJ (PIo.new HZ4hr11j.out HB25.out)
    have HZ25_1 := hJ (PIo.new HZ4hr12j.out HB25.out)
    have HZ25_2 := hJ (PIo.new HZ8hr13j.out HB25.out)
    have HZ25_3 := hJ (PIo.new HZ8hr14j.out HB25.out)
    have HZ25_4 := hJ (PIo.new HZ9hr15j.out HB25.out)
    clear hHeld
    refine hK.out _ _ (HS19.out _ HX25.out) (fun hHeld => ?_)
    clear hK K
    try simp only [PT]
    exact wpAnyH_cast (by kernel_rfl) (J7_4_8_9_13 s11 A11 n11 c11 s12 A12 n12 c12 s13 A13 n13 c13 s14 A14 n14 c14 s15 A15 n15 c15 g7_13 v25 HX25 HZ25_0 HZ25_1 HZ25_2 HZ25_3 HZ25_4 HP25 HG25)
   have J7_4_8_13 : ∀ (s11 : Bool) (A11 : Option Addr) (n11 : Nat) (c11 : Nat) (s12 : Bool) (A12 : Option Addr) (n12 : Nat) (c12 : Nat) (s13 : Bool) (A13 : Option Addr) (n13 : Nat) (c13 : Nat) (s14 : Bool) (A14 : Option Addr) (n14 : Nat) (c14 : Nat) (g7_13 : Nat) (v : World), Hid (Below w18.heap.size w18 v) → Hid (PI v s11 A11 n11 c11 (ahV ax ay bx by' cx cy)) → Hid (PI v s12 A12 n12 c12 (lfV ax ay bx by' cx cy)) → Hid (PI v s13 A13 n13 c13 (ahV ax ay bx by' dx dy)) → Hid (PI v s14 A14 n14 c14 (lfV ax ay bx by' dx dy)) → Hid (BX 48 v g7_13 #[.bool false, .slice none 0 0]) → Hid (w18.heap.size ≤ g7_13) → F 6 (Array.setIfInBounds (Array.setIfInBounds (Array.setIfInBounds L0 4 true) 8 true) 13 true) (Act.put (Act.put (Act.put a0 (some 34) (.agg #[.bool s11, .slice A11 n11 c11, .bool s12, .slice A12 n12 c12])) (some 38) (.agg #[.bool s13, .slice A13 n13 c13, .bool s14, .slice A14 n14 c14])) (some 12) (.pointer (some ⟨g7_13, 0, none⟩))) v := by
    intro s11 A11 n11 c11 s12 A12 n12 c12 s13 A13 n13 c13 s14 A14 n14 c14 g7_13 v HXj HZ4hr11j HZ4hr12j HZ8hr13j HZ8hr14j HPg7_13j HGg7_13j
    subst hF ha0 hL0
    simp only [PT] at J7_4_8_9_13 ⊢
    have hHeld := HS19.out _ HXj.out
    refine wpAnyH_ready (rs := [9]) (by kernel_rfl) (by simp) ?_
    refine .cons rfl (fun K hK => ?_) .nil
    go_simp
    go_at_call 23
    refine (darea_any 0 0 (ahV ax ay bx by' cx cy) (lfV ax ay bx by' cx cy) (ahV ax ay bx by' dx dy) (lfV ax ay bx by' dx dy) false none 0 0 false none 0 0 s11 A11 n11 c11 s12 A12 n12 c12 s13 A13 n13 c13 s14 A14 n14 c14 v (PIo.new HZ0w4.out HXj.out) (PIo.new HZ0w4.out HXj.out) HZ4hr11j.out HZ4hr12j.out HZ8hr13j.out HZ8hr14j.out (ar_nk H4.out)).mono ?_
    rw [ar_zero]
    rintro e v26 ⟨s15, A15, n15, c15, rfl, hr15, hb⟩
    have HB26 := hJ hb
    have HR26hr15 := hJ hr15
    clear hb hr15
    go_wp2_with fail
    have HX26 := hJ (bt HXj.out HB26.out)
    have HZ26_0 := hJ (PIo.new HZ4hr11j.out HB26.out)
    have HZ26_1 := hJ (PIo.new HZ4hr12j.out HB26.out)
    have HZ26_2 := hJ (PIo.new HZ8hr13j.out HB26.out)
    have HZ26_3 := hJ (PIo.new HZ8hr14j.out HB26.out)
    have HP26g7_13 := hJ (BX.new HPg7_13j.out HB26.out)
    clear hHeld
    refine hK.out _ _ (HS19.out _ HX26.out) (fun hHeld => ?_)
    clear hK K
    try simp only [PT]
    refine tq 10 ?_
    try simp only [PT]
    refine tq 11 ?_
    try simp only [PT]
    refine tq 12 ?_
    try simp only [PT]
    exact wpAnyH_cast (by kernel_rfl) (J7_4_8_9_13 s11 A11 n11 c11 s12 A12 n12 c12 s13 A13 n13 c13 s14 A14 n14 c14 s15 A15 n15 c15 g7_13 v26 HX26 HZ26_0 HZ26_1 HZ26_2 HZ26_3 HR26hr15 HP26g7_13 HGg7_13j)
   have J7_4_8 : ∀ (s11 : Bool) (A11 : Option Addr) (n11 : Nat) (c11 : Nat) (s12 : Bool) (A12 : Option Addr) (n12 : Nat) (c12 : Nat) (s13 : Bool) (A13 : Option Addr) (n13 : Nat) (c13 : Nat) (s14 : Bool) (A14 : Option Addr) (n14 : Nat) (c14 : Nat) (v : World), Hid (Below w18.heap.size w18 v) → Hid (PI v s11 A11 n11 c11 (ahV ax ay bx by' cx cy)) → Hid (PI v s12 A12 n12 c12 (lfV ax ay bx by' cx cy)) → Hid (PI v s13 A13 n13 c13 (ahV ax ay bx by' dx dy)) → Hid (PI v s14 A14 n14 c14 (lfV ax ay bx by' dx dy)) → F 7 (Array.setIfInBounds (Array.setIfInBounds L0 4 true) 8 true) (Act.put (Act.put a0 (some 34) (.agg #[.bool s11, .slice A11 n11 c11, .bool s12, .slice A12 n12 c12])) (some 38) (.agg #[.bool s13, .slice A13 n13 c13, .bool s14, .slice A14 n14 c14])) v := by
    intro s11 A11 n11 c11 s12 A12 n12 c12 s13 A13 n13 c13 s14 A14 n14 c14 v HXj HZ4hr11j HZ4hr12j HZ8hr13j HZ8hr14j
    subst hF ha0 hL0
    simp only [PT] at J7_4_8_9 J7_4_8_13 ⊢
    have hHeld := HS19.out _ HXj.out
    refine wpAnyH_ready (rs := [9, 13]) (by kernel_rfl) (by simp) ?_
    refine .cons rfl (fun K hK => ?_) ?_
    go_simp
    go_at_call 23
    refine (darea_any 0 0 (ahV ax ay bx by' cx cy) (lfV ax ay bx by' cx cy) (ahV ax ay bx by' dx dy) (lfV ax ay bx by' dx dy) false none 0 0 false none 0 0 s11 A11 n11 c11 s12 A12 n12 c12 s13 A13 n13 c13 s14 A14 n14 c14 v (PIo.new HZ0w4.out HXj.out) (PIo.new HZ0w4.out HXj.out) HZ4hr11j.out HZ4hr12j.out HZ8hr13j.out HZ8hr14j.out (ar_nk H4.out)).mono ?_
    rw [ar_zero]
    rintro e v27 ⟨s15, A15, n15, c15, rfl, hr15, hb⟩
    have HB27 := hJ hb
    have HR27hr15 := hJ hr15
    clear hb hr15
    go_wp2_with fail
    have HX27 := hJ (bt HXj.out HB27.out)
    have HZ27_0 := hJ (PIo.new HZ4hr11j.out HB27.out)
    have HZ27_1 := hJ (PIo.new HZ4hr12j.out HB27.out)
    have HZ27_2 := hJ (PIo.new HZ8hr13j.out HB27.out)
    have HZ27_3 := hJ (PIo.new HZ8hr14j.out HB27.out)
    clear hHeld
    refine hK.out _ _ (HS19.out _ HX27.out) (fun hHeld => ?_)
    clear hK K
    try simp only [PT]
    refine tq 10 ?_
    try simp only [PT]
    refine tq 11 ?_
    try simp only [PT]
    refine tq 12 ?_
    try simp only [PT]
    exact wpAnyH_cast (by kernel_rfl) (J7_4_8_9 s11 A11 n11 c11 s12 A12 n12 c12 s13 A13 n13 c13 s14 A14 n14 c14 s15 A15 n15 c15 v27 HX27 HZ27_0 HZ27_1 HZ27_2 HZ27_3 HR27hr15)
    refine .cons rfl (fun K hK => ?_) .nil
    go_simp
    have HB28 := hJ ((Below.refl v.heap.size v).alloc (Nat.le_refl _) (.cells #[.bool false, .slice none 0 0] 48))
    have HP28 := hJ (BX.lit v 48 #[.bool false, .slice none 0 0])
    obtain ⟨v28, hV⟩ := nmz (World.alloc v (.cells #[.bool false, .slice none 0 0] 48))
    obtain ⟨g7_13, hg⟩ := nmz (v.heap.size)
    rw [hV] at HB28 HP28 ⊢
    rw [hg] at HP28 ⊢
    have HG28 := hJ (show w18.heap.size ≤ g7_13 by rw [← hg]; exact HXj.out.size)
    clear hV hg
    have HX28 := hJ (bt HXj.out HB28.out)
    have HZ28_0 := hJ (PIo.new HZ4hr11j.out HB28.out)
    have HZ28_1 := hJ (PIo.new HZ4hr12j.out HB28.out)
    have HZ28_2 := hJ (PIo.new HZ8hr13j.out HB28.out)
    have HZ28_3 := hJ (PIo.new HZ8hr14j.out HB28.out)
    clear hHeld
    refine hK.out _ _ (HS19.out _ HX28.out) (fun hHeld => ?_)
    clear hK K
    try simp only [PT]
    exact wpAnyH_cast (by kernel_rfl) (J7_4_8_13 s11 A11 n11 c11 s12 A12 n12 c12 s13 A13 n13 c13 s14 A14 n14 c14 g7_13 v28 HX28 HZ28_0 HZ28_1 HZ28_2 HZ28_3 HP28 HG28)
   have J7_4_13 : ∀ (s11 : Bool) (A11 : Option Addr) (n11 : Nat) (c11 : Nat) (s12 : Bool) (A12 : Option Addr) (n12 : Nat) (c12 : Nat) (g7_13 : Nat) (v : World), Hid (Below w18.heap.size w18 v) → Hid (PI v s11 A11 n11 c11 (ahV ax ay bx by' cx cy)) → Hid (PI v s12 A12 n12 c12 (lfV ax ay bx by' cx cy)) → Hid (BX 48 v g7_13 #[.bool false, .slice none 0 0]) → Hid (w18.heap.size ≤ g7_13) → F 7 (Array.setIfInBounds (Array.setIfInBounds L0 4 true) 13 true) (Act.put (Act.put a0 (some 34) (.agg #[.bool s11, .slice A11 n11 c11, .bool s12, .slice A12 n12 c12])) (some 12) (.pointer (some ⟨g7_13, 0, none⟩))) v := by
    intro s11 A11 n11 c11 s12 A12 n12 c12 g7_13 v HXj HZ4hr11j HZ4hr12j HPg7_13j HGg7_13j
    subst hF ha0 hL0
    simp only [PT] at J7_4_8_13 ⊢
    have hHeld := HS19.out _ HXj.out
    refine wpAnyH_ready (rs := [8]) (by kernel_rfl) (by simp) ?_
    refine .cons rfl (fun K hK => ?_) .nil
    go_simp
    go_at_call 26
    refine (view_any ax ay bx by' dx dy v H4.out.1 H4.out.2.1 H4.out.2.2.2).mono ?_
    rintro e v29 ⟨s13, A13, n13, c13, s14, A14, n14, c14, rfl, hr13, hr14, hb⟩
    have HB29 := hJ hb
    have HR29hr13 := hJ hr13
    have HR29hr14 := hJ hr14
    clear hb hr13 hr14
    go_wp2_with fail
    have HX29 := hJ (bt HXj.out HB29.out)
    have HZ29_0 := hJ (PIo.new HZ4hr11j.out HB29.out)
    have HZ29_1 := hJ (PIo.new HZ4hr12j.out HB29.out)
    have HP29g7_13 := hJ (BX.new HPg7_13j.out HB29.out)
    clear hHeld
    refine hK.out _ _ (HS19.out _ HX29.out) (fun hHeld => ?_)
    clear hK K
    try simp only [PT]
    exact wpAnyH_cast (by kernel_rfl) (J7_4_8_13 s11 A11 n11 c11 s12 A12 n12 c12 s13 A13 n13 c13 s14 A14 n14 c14 g7_13 v29 HX29 HZ29_0 HZ29_1 HR29hr13 HR29hr14 HP29g7_13 HGg7_13j)
   have J7_4 : ∀ (s11 : Bool) (A11 : Option Addr) (n11 : Nat) (c11 : Nat) (s12 : Bool) (A12 : Option Addr) (n12 : Nat) (c12 : Nat) (v : World), Hid (Below w18.heap.size w18 v) → Hid (PI v s11 A11 n11 c11 (ahV ax ay bx by' cx cy)) → Hid (PI v s12 A12 n12 c12 (lfV ax ay bx by' cx cy)) → F 8 (Array.setIfInBounds L0 4 true) (Act.put a0 (some 34) (.agg #[.bool s11, .slice A11 n11 c11, .bool s12, .slice A12 n12 c12])) v := by
    intro s11 A11 n11 c11 s12 A12 n12 c12 v HXj HZ4hr11j HZ4hr12j
    subst hF ha0 hL0
    simp only [PT] at J7_4_8 J7_4_13 ⊢
    have hHeld := HS19.out _ HXj.out
    refine wpAnyH_ready (rs := [8, 13]) (by kernel_rfl) (by simp) ?_
    refine .cons rfl (fun K hK => ?_) ?_
    go_simp
    go_at_call 26
    refine (view_any ax ay bx by' dx dy v H4.out.1 H4.out.2.1 H4.out.2.2.2).mono ?_
    rintro e v30 ⟨s13, A13, n13, c13, s14, A14, n14, c14, rfl, hr13, hr14, hb⟩
    have HB30 := hJ hb
    have HR30hr13 := hJ hr13
    have HR30hr14 := hJ hr14
    clear hb hr13 hr14
    go_wp2_with fail
    have HX30 := hJ (bt HXj.out HB30.out)
    have HZ30_0 := hJ (PIo.new HZ4hr11j.out HB30.out)
    have HZ30_1 := hJ (PIo.new HZ4hr12j.out HB30.out)
    clear hHeld
    refine hK.out _ _ (HS19.out _ HX30.out) (fun hHeld => ?_)
    clear hK K
    try simp only [PT]
    exact wpAnyH_cast (by kernel_rfl) (J7_4_8 s11 A11 n11 c11 s12 A12 n12 c12 s13 A13 n13 c13 s14 A14 n14 c14 v30 HX30 HZ30_0 HZ30_1 HR30hr13 HR30hr14)
    refine .cons rfl (fun K hK => ?_) .nil
    go_simp
    have HB31 := hJ ((Below.refl v.heap.size v).alloc (Nat.le_refl _) (.cells #[.bool false, .slice none 0 0] 48))
    have HP31 := hJ (BX.lit v 48 #[.bool false, .slice none 0 0])
    obtain ⟨v31, hV⟩ := nmz (World.alloc v (.cells #[.bool false, .slice none 0 0] 48))
    obtain ⟨g7_13, hg⟩ := nmz (v.heap.size)
    rw [hV] at HB31 HP31 ⊢
    rw [hg] at HP31 ⊢
    have HG31 := hJ (show w18.heap.size ≤ g7_13 by rw [← hg]; exact HXj.out.size)
    clear hV hg
    have HX31 := hJ (bt HXj.out HB31.out)
    have HZ31_0 := hJ (PIo.new HZ4hr11j.out HB31.out)
    have HZ31_1 := hJ (PIo.new HZ4hr12j.out HB31.out)
    clear hHeld
    refine hK.out _ _ (HS19.out _ HX31.out) (fun hHeld => ?_)
    clear hK K
    try simp only [PT]
    exact wpAnyH_cast (by kernel_rfl) (J7_4_13 s11 A11 n11 c11 s12 A12 n12 c12 g7_13 v31 HX31 HZ31_0 HZ31_1 HP31 HG31)
   have J7_13 : ∀ (g7_13 : Nat) (v : World), Hid (Below w18.heap.size w18 v) → Hid (BX 48 v g7_13 #[.bool false, .slice none 0 0]) → Hid (w18.heap.size ≤ g7_13) → F 8 (Array.setIfInBounds L0 13 true) (Act.put a0 (some 12) (.pointer (some ⟨g7_13, 0, none⟩))) v := by
    intro g7_13 v HXj HPg7_13j HGg7_13j
    subst hF ha0 hL0
    simp only [PT] at J7_4_13 ⊢
    have hHeld := HS19.out _ HXj.out
    refine wpAnyH_ready (rs := [4]) (by kernel_rfl) (by simp) ?_
    refine .cons rfl (fun K hK => ?_) .nil
    go_simp
    go_at_call 26
    refine (view_any ax ay bx by' cx cy v H4.out.1 H4.out.2.1 H4.out.2.2.1).mono ?_
    rintro e v32 ⟨s11, A11, n11, c11, s12, A12, n12, c12, rfl, hr11, hr12, hb⟩
    have HB32 := hJ hb
    have HR32hr11 := hJ hr11
    have HR32hr12 := hJ hr12
    clear hb hr11 hr12
    go_wp2_with fail
    have HX32 := hJ (bt HXj.out HB32.out)
    have HP32g7_13 := hJ (BX.new HPg7_13j.out HB32.out)
    clear hHeld
    refine hK.out _ _ (HS19.out _ HX32.out) (fun hHeld => ?_)
    clear hK K
    try simp only [PT]
    exact wpAnyH_cast (by kernel_rfl) (J7_4_13 s11 A11 n11 c11 s12 A12 n12 c12 g7_13 v32 HX32 HR32hr11 HR32hr12 HP32g7_13 HGg7_13j)
   subst hF ha0 hL0
   simp only [PT] at J7_4 J7_13
   refine wpAnyH_ready (rs := [4, 13]) (by kernel_rfl) (by simp) ?_
   refine .cons rfl (fun K hK => ?_) ?_
   go_simp
   go_at_call 26
   refine (view_any ax ay bx by' cx cy v19 H4.out.1 H4.out.2.1 H4.out.2.2.1).mono ?_
   rintro e v33 ⟨s11, A11, n11, c11, s12, A12, n12, c12, rfl, hr11, hr12, hb⟩
   have HB33 := hJ hb
   have HR33hr11 := hJ hr11
   have HR33hr12 := hJ hr12
   clear hb hr11 hr12
   go_wp2_with fail
   have HX33 := hJ (bt HX19.out HB33.out)
   clear hHeld
   refine hK.out _ _ (HS19.out _ HX33.out) (fun hHeld => ?_)
   clear hK K
   try simp only [PT]
   exact wpAnyH_cast (by kernel_rfl) (J7_4 s11 A11 n11 c11 s12 A12 n12 c12 v33 HX33 HR33hr11 HR33hr12)
   refine .cons rfl (fun K hK => ?_) .nil
   go_simp
   have HB34 := hJ ((Below.refl v19.heap.size v19).alloc (Nat.le_refl _) (.cells #[.bool false, .slice none 0 0] 48))
   have HP34 := hJ (BX.lit v19 48 #[.bool false, .slice none 0 0])
   obtain ⟨v34, hV⟩ := nmz (World.alloc v19 (.cells #[.bool false, .slice none 0 0] 48))
   obtain ⟨g7_13, hg⟩ := nmz (v19.heap.size)
   rw [hV] at HB34 HP34 ⊢
   rw [hg] at HP34 ⊢
   have HG34 := hJ (show w18.heap.size ≤ g7_13 by rw [← hg]; exact HX19.out.size)
   clear hV hg
   have HX34 := hJ (bt HX19.out HB34.out)
   clear hHeld
   refine hK.out _ _ (HS19.out _ HX34.out) (fun hHeld => ?_)
   clear hK K
   try simp only [PT]
   exact wpAnyH_cast (by kernel_rfl) (J7_13 g7_13 v34 HX34 HP34 HG34)
 ·have hEz : (E == 0) = false := by simp [hE0]
  have HV := hJ (show crV ax ay bx by' cx cy dx dy = 0 ∧ crE ax ay bx by' cx cy dx dy = E from ⟨if_neg (by rw [HE.out]; exact hE0), by rw [crE, HE.out, if_neg hE0]⟩)
  clear hE0
  have HC0_3 := hJ (bt (bt HB1.out HB10.out) HB11.out)
  go_wp2
  go_ret2
  exact ⟨by rw [HV.out.1, HV.out.2] <;> rfl, HC0_3.out⟩
end Go.Proofs.Ytdamadkhbeonaaa
