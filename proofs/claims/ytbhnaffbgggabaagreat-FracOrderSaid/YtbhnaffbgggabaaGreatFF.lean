/- Contracts of the program's fractions: Compare. Conditions: as each statement has them. -/
import Derived.Test.YtbhnaffbgggabaaGreatFC
import Derived.Test.YtbhnaffbgggabaaGreatFE
import Derived.Deep.DeepCutAuto
namespace Go.Proofs.YtbhnaffbgggabaaGreat
open Go.RowKit
attribute [local go_sem ↓] Go.wp_at_zero Go.wp_at_succ
theorem dn_cmp {p q r s : Int} (hq : 0 < q) (hs : 0 < s) : (cmpI (dn q) (dn s) = 0 → cmpI p r = cmpI (p * s) (r * q)) ∧ True := by
 refine ⟨fun h => ?_, trivial⟩
 have he : dn q = dn s := by
  rcases cmpI_cases (dn q) (dn s) with ⟨_, h1⟩ | ⟨h1, _⟩ | ⟨_, h1⟩
  ·omega
  ·exact h1
  ·omega
 have : q = s := by
  unfold dn at he
  split at he <;> split at he <;> omega
 subst this
 exact (cmpI_mul hq).symm
theorem two_codes (x y : Int) (h : feV [outC x, outC y] = 0) : outV x = x ∧ outV y = y := by
 rcases outVC x with ⟨_, h1, h2⟩ | ⟨_, h1, h2⟩ <;> rcases outVC y with ⟨_, h3, h4⟩ | ⟨_, h3, h4⟩
 ·exact ⟨h1, h3⟩
 all_goals
  rw [h2, h4] at h
  simp [feV] at h
set_option maxRecDepth 100000 in
set_option maxHeartbeats 6400000 in
theorem fcompare_any (p q r s : Int) (sa sb sd se : Bool) (Aa Ab Ad Ae : Option Addr) (na ca nb cb nd cd ne ce : Nat) (w : World) (hx : PF w sa Aa na ca sb Ab nb cb p q) (hy : PF w sd Ad nd cd se Ae ne ce r s) (hq : 0 < q) (hs : 0 < s) (hlp : p.natAbs < lim) (hlq : q.natAbs < lim) (hlr : r.natAbs < lim) (hls : s.natAbs < lim) :
  Calls Tryz.prog 46 #[.agg #[.bool sa, .slice Aa na ca, .bool sb, .slice Ab nb cb], .agg #[.bool sd, .slice Ad nd cd, .bool se, .slice Ae ne ce]] w fun e w' => e = .returned (.int .i64 (cmpI (p * s) (r * q))) ∧ Below w.heap.size w w' := by
 have HL0 := hJ (And.intro hq (And.intro hs (And.intro hlp (And.intro hlq (And.intro hlr hls)))))
 obtain ⟨W, hW⟩ : ∃ W, (w.alloc (.cells #[.bool sa, .slice Aa na ca, .bool sb, .slice Ab nb cb] 35)).alloc (.cells #[.bool sd, .slice Ad nd cd, .bool se, .slice Ae ne ce] 35) = W := ⟨_, rfl⟩
 have HK := hJ (show Below w.heap.size w W by rw [← hW]; exact ((Below.refl _ w).alloc (Nat.le_refl _) _).alloc (by simp) _)
 have HPa := hJ (show P4 35 W w.heap.size (.bool sa) (.slice Aa na ca) (.bool sb) (.slice Ab nb cb) by rw [← hW]; exact (P4.lit w _ _ _ _ _).new ((Below.refl _ _).alloc (Nat.le_refl _) _))
 have HPb := hJ (show P4 35 W (w.heap.size + 1) (.bool sd) (.slice Ad nd cd) (.bool se) (.slice Ae ne ce) by
  rw [← hW]
  have h0 := P4.lit (w.alloc (.cells #[.bool sa, .slice Aa na ca, .bool sb, .slice Ab nb cb] 35)) 35 (.bool sd) (.slice Ad nd cd) (.bool se) (.slice Ae ne ce)
  rw [World.size_alloc] at h0
  exact h0)
 have HRa := hJ (hx.new HK.out)
 have HRb := hJ (hy.new HK.out)
 have hna : na ≤ 512 := plim hx.1 hlp
 have hnb : nb ≤ 512 := plim hx.2 (dn_lim hlq)
 have hnd : nd ≤ 512 := plim hy.1 hlr
 have hne : ne ≤ 512 := plim hy.2 (dn_lim hls)
 have HDN := hJ (dn_cmp (p := p) (r := r) hq hs)
 obtain ⟨h, hh⟩ : ∃ h, w.heap.size = h := ⟨_, rfl⟩
 rw [hh] at HPa HPb
 clear hx hy hq hs hlp hlq hlr hls
 go_enter Tryz.func46, Tryz.ntmps46
 obtain ⟨cla0_1, cla1_1, cla2_1, cla3_1⟩ := HPa.out.cells
 obtain ⟨clb0_1, clb1_1, clb2_1, clb3_1⟩ := HPb.out.cells
 go_wp2_with fail
 refine (pcompare_any (dn q) (dn s) sb se Ab Ae nb cb ne ce W HRa.out.2 HRb.out.2 (by omega) (by omega)).mono ?_
 obtain ⟨u, hu⟩ : ∃ u, cmpI (dn q) (dn s) = u := ⟨_, rfl⟩
 rw [hu] at HDN ⊢
 clear hu
 rintro e w1 ⟨rfl, hb1⟩
 have HB1 := hJ hb1
 clear hb1
 have HQa_1 := hJ (HPa.out.new HB1.out)
 have HRa_1 := hJ (HRa.out.new HB1.out)
 have HQd_1 := hJ (HPb.out.new HB1.out)
 have HRd_1 := hJ (HRb.out.new HB1.out)
 have HW_1 := hJ (bt HK.out HB1.out)
 clear HPa HRa HPb HRb HK hW hh cla0_1 cla1_1 cla2_1 cla3_1 clb0_1 clb1_1 clb2_1 clb3_1 HB1
 by_cases hu : u = 0
 ·have HEQ := hJ (HDN.out.1 hu)
  subst hu
  obtain ⟨cla0_2, cla1_2, cla2_2, cla3_2⟩ := HQa_1.out.cells
  obtain ⟨clb0_2, clb1_2, clb2_2, clb3_2⟩ := HQd_1.out.cells
  go_wp2_with fail
  refine (pcompare_any p r sa sd Aa Ad na ca nd cd w1 HRa_1.out.1 HRd_1.out.1 (by omega) (by omega)).mono ?_
  rw [HEQ.out]
  rintro e w2 ⟨rfl, hb2⟩
  have HB2 := hJ (bt HW_1.out hb2)
  clear hb2
  go_wp2
  go_ret
  exact ⟨rfl, HB2.out⟩
 ·have hub : (u == 0) = false := by simp [hu]
  clear hu HDN
  obtain ⟨cla0_3, cla1_3, cla2_3, cla3_3⟩ := HQa_1.out.cells
  obtain ⟨clb0_3, clb1_3, clb2_3, clb3_3⟩ := HQd_1.out.cells
  go_wp2_with fail
  clear hub
  clear cla0_3 cla1_3 cla2_3 cla3_3 clb0_3 clb1_3 clb2_3 clb3_3
  have HS4 : Hid (∀ w', Below w1.heap.size w1 w' → (fun w' : World => w'.cell? ⟨h, 0, none⟩ = some (.bool sa) ∧ w'.cell? ⟨h, 1, none⟩ = some (.slice Aa na ca) ∧ w'.cell? ⟨h, 2, none⟩ = some (.bool sb) ∧ w'.cell? ⟨h, 3, none⟩ = some (.slice Ab nb cb) ∧ w'.cell? ⟨(h + 1), 0, none⟩ = some (.bool sd) ∧ w'.cell? ⟨(h + 1), 1, none⟩ = some (.slice Ad nd cd) ∧ w'.cell? ⟨(h + 1), 2, none⟩ = some (.bool se) ∧ w'.cell? ⟨(h + 1), 3, none⟩ = some (.slice Ae ne ce) ∧ Below w1.heap.size w1 w') w') := hJ (fun w' hb => ⟨(HQa_1.out.new hb).cells.1, (HQa_1.out.new hb).cells.2.1, (HQa_1.out.new hb).cells.2.2.1, (HQa_1.out.new hb).cells.2.2.2, (HQd_1.out.new hb).cells.1, (HQd_1.out.new hb).cells.2.1, (HQd_1.out.new hb).cells.2.2.1, (HQd_1.out.new hb).cells.2.2.2, hb⟩)
  have HXX4 := hJ (Below.refl w1.heap.size w1)
  go_upto_region 3 with fail
  go_cut [5, 6] (fun tp tq wx => ∃ (G H : Nat) (s4a : Bool) (A4a : Option Addr) (n4a c4a : Nat) (s4b : Bool) (A4b : Option Addr) (n4b c4b : Nat), tp = .pointer (some ⟨G, 0, none⟩) ∧ tq = .pointer (some ⟨H, 0, none⟩) ∧ P2 33 wx G (.bool s4a) (.slice A4a n4a c4a) ∧ P2 33 wx H (.bool s4b) (.slice A4b n4b c4b) ∧ PI wx s4a A4a n4a c4a (q) ∧ PI wx s4b A4b n4b c4b (s) ∧ Below w1.heap.size w1 wx)
  case first =>
   have HX_0 := HXX4
   obtain ⟨v0, hv0⟩ := nmz (World.drew w1)
   have HD0 := hJ (show Below w1.heap.size w1 v0 by rw [← hv0]; exact (Below.refl _ _).drew)
   have a_0 := hJ ((HRa_1.out).new HD0.out)
   have b_0 := hJ ((HRd_1.out).new HD0.out)
   refine wp_region_held_drew (S := (fun w' : World => w'.cell? ⟨h, 0, none⟩ = some (.bool sa) ∧ w'.cell? ⟨h, 1, none⟩ = some (.slice Aa na ca) ∧ w'.cell? ⟨h, 2, none⟩ = some (.bool sb) ∧ w'.cell? ⟨h, 3, none⟩ = some (.slice Ab nb cb) ∧ w'.cell? ⟨(h + 1), 0, none⟩ = some (.bool sd) ∧ w'.cell? ⟨(h + 1), 1, none⟩ = some (.slice Ad nd cd) ∧ w'.cell? ⟨(h + 1), 2, none⟩ = some (.bool se) ∧ w'.cell? ⟨(h + 1), 3, none⟩ = some (.slice Ae ne ce) ∧ Below w1.heap.size w1 w')) (by kernel_rfl) ?_ (fun hHeld => ?_)
   ·rw [hv0]
    exact HS4.out _ HD0.out
   rw [hv0] at hHeld ⊢
   clear hv0 HX_0
   refine tq 0 ?_
   try simp only [PT]
   refine tq 2 ?_
   try simp only [PT]
   refine wpAnyH_name (fun F hF a0 ha0 L0 hL0 => ?_)
   have J1_3_4_5 : ∀ (s4a : Bool) (A4a : Option Addr) (n4a : Nat) (c4a : Nat) (s4b : Bool) (A4b : Option Addr) (n4b : Nat) (c4b : Nat) (gx : Nat) (gy : Nat) (v : World), Hid (Below w1.heap.size w1 v) → Hid (PF v sa Aa na ca sb Ab nb cb p q) → Hid (PF v sd Ad nd cd se Ae ne ce r s) → Hid (PI v s4a A4a n4a c4a (q)) → Hid (PI v s4b A4b n4b c4b (s)) → Hid (P2 33 v gx (.bool false) (.slice none 0 0)) → Hid (w1.heap.size ≤ gx) → Hid (P2 33 v gy (.bool false) (.slice none 0 0)) → Hid (w1.heap.size ≤ gy) → Hid (gx ≠ gy) → F 2 (Array.setIfInBounds (Array.setIfInBounds (Array.setIfInBounds (Array.setIfInBounds L0 1 true) 3 true) 4 true) 5 true) (Act.put (Act.put (Act.put (Act.put a0 (some 23) (.agg #[.bool s4a, .slice A4a n4a c4a])) (some 25) (.agg #[.bool s4b, .slice A4b n4b c4b])) (some 5) (.pointer (some ⟨gx, 0, none⟩))) (some 6) (.pointer (some ⟨gy, 0, none⟩))) v := by
    intro s4a A4a n4a c4a s4b A4b n4b c4b gx gy v HX_j a_j b_j N0_j N1_j HP_x_j HG_x_j HP_y_j HG_y_j HN_x_y_j
    subst hF ha0 hL0
    simp only [PT] at  ⊢
    have hHeld := HS4.out _ HX_j.out
    refine wpAnyH_ready (rs := [6]) (by kernel_rfl) (by simp) ?_
    refine .cons rfl (fun K hK => ?_) .nil
    obtain ⟨z0, z1⟩ := HP_x_j.out.cells
    have y0 := HP_x_j.out.frozen 0
    have y1 := HP_x_j.out.frozen 1
    have z9 := HP_x_j.out.lt
    go_simp
    obtain ⟨v1, hV⟩ := nmz (World.setCell (World.setCell v ⟨gx, 0, none⟩ (.bool s4a)) ⟨gx, 1, none⟩ (.slice A4a n4a c4a))
    rw [hV]
    have HX_1 := hJ (show Below w1.heap.size w1 v1 by rw [← hV]; exact below_box HX_j.out (HG_x_j.out) _ _)
    have a_1 := hJ (show PF v1 sa Aa na ca sb Ab nb cb p q by rw [← hV]; exact PF.box (a_j.out) (HP_x_j.out) (.bool s4a) (.slice A4a n4a c4a))
    have b_1 := hJ (show PF v1 sd Ad nd cd se Ae ne ce r s by rw [← hV]; exact PF.box (b_j.out) (HP_x_j.out) (.bool s4a) (.slice A4a n4a c4a))
    have N0_1 := hJ (show PI v1 s4a A4a n4a c4a (q) by rw [← hV]; exact PIo.box (N0_j.out) (HP_x_j.out) rfl rfl (.bool s4a) (.slice A4a n4a c4a))
    have N1_1 := hJ (show PI v1 s4b A4b n4b c4b (s) by rw [← hV]; exact PIo.box (N1_j.out) (HP_x_j.out) rfl rfl (.bool s4a) (.slice A4a n4a c4a))
    have HP_y_1 := hJ (show P2 33 v1 gy (.bool false) (.slice none 0 0) by rw [← hV]; exact HP_y_j.out.far2 (show gy ≠ gx from HN_x_y_j.out.symm) (.bool s4a) (.slice A4a n4a c4a))
    have HP_x_1 := hJ (show P2 33 v1 gx (.bool s4a) (.slice A4a n4a c4a) by rw [← hV]; exact HP_x_j.out.all (.bool s4a) (.slice A4a n4a c4a))
    clear hHeld
    refine hK.out _ _ (HS4.out _ HX_1.out) (fun hHeld => ?_)
    clear hK K hV z9 z0 z1 y0 y1 HX_j a_j b_j N0_j N1_j HP_y_j HP_x_j
    try simp only [PT]
    refine wpAnyH_ready (rs := [7]) (by kernel_rfl) (by simp) ?_
    refine .cons rfl (fun K hK => ?_) .nil
    obtain ⟨z0, z1⟩ := HP_y_1.out.cells
    have y0 := HP_y_1.out.frozen 0
    have y1 := HP_y_1.out.frozen 1
    have z9 := HP_y_1.out.lt
    go_simp
    obtain ⟨v2, hV⟩ := nmz (World.setCell (World.setCell v1 ⟨gy, 0, none⟩ (.bool s4b)) ⟨gy, 1, none⟩ (.slice A4b n4b c4b))
    rw [hV]
    have HX_2 := hJ (show Below w1.heap.size w1 v2 by rw [← hV]; exact below_box HX_1.out (HG_y_j.out) _ _)
    have a_2 := hJ (show PF v2 sa Aa na ca sb Ab nb cb p q by rw [← hV]; exact PF.box (a_1.out) (HP_y_1.out) (.bool s4b) (.slice A4b n4b c4b))
    have b_2 := hJ (show PF v2 sd Ad nd cd se Ae ne ce r s by rw [← hV]; exact PF.box (b_1.out) (HP_y_1.out) (.bool s4b) (.slice A4b n4b c4b))
    have N0_2 := hJ (show PI v2 s4a A4a n4a c4a (q) by rw [← hV]; exact PIo.box (N0_1.out) (HP_y_1.out) rfl rfl (.bool s4b) (.slice A4b n4b c4b))
    have N1_2 := hJ (show PI v2 s4b A4b n4b c4b (s) by rw [← hV]; exact PIo.box (N1_1.out) (HP_y_1.out) rfl rfl (.bool s4b) (.slice A4b n4b c4b))
    have HP_x_2 := hJ (show P2 33 v2 gx (.bool s4a) (.slice A4a n4a c4a) by rw [← hV]; exact HP_x_1.out.far2 (show gx ≠ gy from HN_x_y_j.out) (.bool s4b) (.slice A4b n4b c4b))
    have HP_y_2 := hJ (show P2 33 v2 gy (.bool s4b) (.slice A4b n4b c4b) by rw [← hV]; exact HP_y_1.out.all (.bool s4b) (.slice A4b n4b c4b))
    clear hHeld
    refine hK.out _ _ (HS4.out _ HX_2.out) (fun hHeld => ?_)
    clear hK K hV z9 z0 z1 y0 y1 HX_1 a_1 b_1 N0_1 N1_1 HP_x_1 HP_y_1
    try simp only [PT]
    refine wpAnyH_done (by kernel_rfl) ?_ _
    clear hHeld
    go_wp2_with fail
    go_meet
    exact ⟨gx, gy, s4a, A4a, n4a, c4a, s4b, A4b, n4b, c4b, rfl, rfl, HP_x_2.out, HP_y_2.out, N0_2.out, N1_2.out, HX_2.out⟩
   have J1_3_4 : ∀ (s4a : Bool) (A4a : Option Addr) (n4a : Nat) (c4a : Nat) (s4b : Bool) (A4b : Option Addr) (n4b : Nat) (c4b : Nat) (gx : Nat) (v : World), Hid (Below w1.heap.size w1 v) → Hid (PF v sa Aa na ca sb Ab nb cb p q) → Hid (PF v sd Ad nd cd se Ae ne ce r s) → Hid (PI v s4a A4a n4a c4a (q)) → Hid (PI v s4b A4b n4b c4b (s)) → Hid (P2 33 v gx (.bool false) (.slice none 0 0)) → Hid (w1.heap.size ≤ gx) → F 3 (Array.setIfInBounds (Array.setIfInBounds (Array.setIfInBounds L0 1 true) 3 true) 4 true) (Act.put (Act.put (Act.put a0 (some 23) (.agg #[.bool s4a, .slice A4a n4a c4a])) (some 25) (.agg #[.bool s4b, .slice A4b n4b c4b])) (some 5) (.pointer (some ⟨gx, 0, none⟩))) v := by
    intro s4a A4a n4a c4a s4b A4b n4b c4b gx v HX_j a_j b_j N0_j N1_j HP_x_j HG_x_j
    subst hF ha0 hL0
    simp only [PT] at J1_3_4_5 ⊢
    have hHeld := HS4.out _ HX_j.out
    refine wpAnyH_ready (rs := [5]) (by kernel_rfl) (by simp) ?_
    refine .cons rfl (fun K hK => ?_) .nil
    go_simp
    have HB_3 := hJ ((Below.refl v.heap.size v).alloc (Nat.le_refl _) (.cells #[.bool false, .slice none 0 0] 33))
    have HP_y_3 := hJ (P2.lit v 33 (.bool false) (.slice none 0 0))
    obtain ⟨v3, hV⟩ := nmz (World.alloc v (.cells #[.bool false, .slice none 0 0] 33))
    obtain ⟨gy, hg⟩ := nmz (v.heap.size)
    rw [hV] at HB_3 HP_y_3  ⊢
    rw [hg] at HP_y_3  ⊢
    have HG_y := hJ (show w1.heap.size ≤ gy by rw [← hg]; exact HX_j.out.size)
    have HN_x_y := hJ (show gx ≠ gy by have := HP_x_j.out.lt; rw [hg] at this; omega)
    have HX_3 := hJ (bt HX_j.out HB_3.out)
    have a_3 := hJ ((a_j.out).new HB_3.out)
    have b_3 := hJ ((b_j.out).new HB_3.out)
    have N0_3 := hJ (PIo.new N0_j.out HB_3.out)
    have N1_3 := hJ (PIo.new N1_j.out HB_3.out)
    have HP_x_3 := hJ (HP_x_j.out.new HB_3.out)
    clear hHeld
    refine hK.out _ _ (HS4.out _ HX_3.out) (fun hHeld => ?_)
    clear hK K hV hg HB_3 HX_j a_j b_j N0_j N1_j HP_x_j
    try simp only [PT]
    exact wpAnyH_cast (by kernel_rfl) (J1_3_4_5 s4a A4a n4a c4a s4b A4b n4b c4b gx gy v3 HX_3 a_3 b_3 N0_3 N1_3 HP_x_3 (hJ (HG_x_j.out)) HP_y_3 (hJ (HG_y.out)) (hJ (HN_x_y.out)))
   have J1_3_5 : ∀ (s4a : Bool) (A4a : Option Addr) (n4a : Nat) (c4a : Nat) (s4b : Bool) (A4b : Option Addr) (n4b : Nat) (c4b : Nat) (gy : Nat) (v : World), Hid (Below w1.heap.size w1 v) → Hid (PF v sa Aa na ca sb Ab nb cb p q) → Hid (PF v sd Ad nd cd se Ae ne ce r s) → Hid (PI v s4a A4a n4a c4a (q)) → Hid (PI v s4b A4b n4b c4b (s)) → Hid (P2 33 v gy (.bool false) (.slice none 0 0)) → Hid (w1.heap.size ≤ gy) → F 3 (Array.setIfInBounds (Array.setIfInBounds (Array.setIfInBounds L0 1 true) 3 true) 5 true) (Act.put (Act.put (Act.put a0 (some 23) (.agg #[.bool s4a, .slice A4a n4a c4a])) (some 25) (.agg #[.bool s4b, .slice A4b n4b c4b])) (some 6) (.pointer (some ⟨gy, 0, none⟩))) v := by
    intro s4a A4a n4a c4a s4b A4b n4b c4b gy v HX_j a_j b_j N0_j N1_j HP_y_j HG_y_j
    subst hF ha0 hL0
    simp only [PT] at J1_3_4_5 ⊢
    have hHeld := HS4.out _ HX_j.out
    refine wpAnyH_ready (rs := [4]) (by kernel_rfl) (by simp) ?_
    refine .cons rfl (fun K hK => ?_) .nil
    go_simp
    have HB_4 := hJ ((Below.refl v.heap.size v).alloc (Nat.le_refl _) (.cells #[.bool false, .slice none 0 0] 33))
    have HP_x_4 := hJ (P2.lit v 33 (.bool false) (.slice none 0 0))
    obtain ⟨v4, hV⟩ := nmz (World.alloc v (.cells #[.bool false, .slice none 0 0] 33))
    obtain ⟨gx, hg⟩ := nmz (v.heap.size)
    rw [hV] at HB_4 HP_x_4  ⊢
    rw [hg] at HP_x_4  ⊢
    have HG_x := hJ (show w1.heap.size ≤ gx by rw [← hg]; exact HX_j.out.size)
    have HN_y_x := hJ (show gy ≠ gx by have := HP_y_j.out.lt; rw [hg] at this; omega)
    have HX_4 := hJ (bt HX_j.out HB_4.out)
    have a_4 := hJ ((a_j.out).new HB_4.out)
    have b_4 := hJ ((b_j.out).new HB_4.out)
    have N0_4 := hJ (PIo.new N0_j.out HB_4.out)
    have N1_4 := hJ (PIo.new N1_j.out HB_4.out)
    have HP_y_4 := hJ (HP_y_j.out.new HB_4.out)
    clear hHeld
    refine hK.out _ _ (HS4.out _ HX_4.out) (fun hHeld => ?_)
    clear hK K hV hg HB_4 HX_j a_j b_j N0_j N1_j HP_y_j
    try simp only [PT]
    exact wpAnyH_cast (by kernel_rfl) (J1_3_4_5 s4a A4a n4a c4a s4b A4b n4b c4b gx gy v4 HX_4 a_4 b_4 N0_4 N1_4 HP_x_4 (hJ (HG_x.out)) HP_y_4 (hJ (HG_y_j.out)) (hJ (HN_y_x.out.symm)))
   have J1_4_5 : ∀ (s4a : Bool) (A4a : Option Addr) (n4a : Nat) (c4a : Nat) (gx : Nat) (gy : Nat) (v : World), Hid (Below w1.heap.size w1 v) → Hid (PF v sa Aa na ca sb Ab nb cb p q) → Hid (PF v sd Ad nd cd se Ae ne ce r s) → Hid (PI v s4a A4a n4a c4a (q)) → Hid (P2 33 v gx (.bool false) (.slice none 0 0)) → Hid (w1.heap.size ≤ gx) → Hid (P2 33 v gy (.bool false) (.slice none 0 0)) → Hid (w1.heap.size ≤ gy) → Hid (gx ≠ gy) → F 3 (Array.setIfInBounds (Array.setIfInBounds (Array.setIfInBounds L0 1 true) 4 true) 5 true) (Act.put (Act.put (Act.put a0 (some 23) (.agg #[.bool s4a, .slice A4a n4a c4a])) (some 5) (.pointer (some ⟨gx, 0, none⟩))) (some 6) (.pointer (some ⟨gy, 0, none⟩))) v := by
    intro s4a A4a n4a c4a gx gy v HX_j a_j b_j N0_j HP_x_j HG_x_j HP_y_j HG_y_j HN_x_y_j
    subst hF ha0 hL0
    simp only [PT] at J1_3_4_5 ⊢
    have hHeld := HS4.out _ HX_j.out
    refine wpAnyH_ready (rs := [3]) (by kernel_rfl) (by simp) ?_
    refine .cons rfl (fun K hK => ?_) .nil
    go_simp
    go_at_call_of 51 (#[Value.agg #[.bool sd, .slice Ad nd cd, .bool se, .slice Ae ne ce]])
    refine (den_any r s sd se Ad Ae nd cd ne ce v (b_j.out) (by omega) HL0.out.2.1).mono ?_
    rintro e v5 ⟨s4b, A4b, n4b, c4b, rfl, hr, hk⟩
    have N1_5 := hJ (hr)
    have HB_5 := hJ hk
    go_wp2_with fail
    have HX_5 := hJ (bt HX_j.out HB_5.out)
    have a_5 := hJ ((a_j.out).new HB_5.out)
    have b_5 := hJ ((b_j.out).new HB_5.out)
    have N0_5 := hJ (PIo.new N0_j.out HB_5.out)
    have HP_x_5 := hJ (HP_x_j.out.new HB_5.out)
    have HP_y_5 := hJ (HP_y_j.out.new HB_5.out)
    clear hHeld
    refine hK.out _ _ (HS4.out _ HX_5.out) (fun hHeld => ?_)
    clear hK K hk HB_5 hr HX_j a_j b_j N0_j HP_x_j HP_y_j
    try simp only [PT]
    exact wpAnyH_cast (by kernel_rfl) (J1_3_4_5 s4a A4a n4a c4a s4b A4b n4b c4b gx gy v5 HX_5 a_5 b_5 N0_5 N1_5 HP_x_5 (hJ (HG_x_j.out)) HP_y_5 (hJ (HG_y_j.out)) (hJ (HN_x_y_j.out)))
   have J1_3 : ∀ (s4a : Bool) (A4a : Option Addr) (n4a : Nat) (c4a : Nat) (s4b : Bool) (A4b : Option Addr) (n4b : Nat) (c4b : Nat) (v : World), Hid (Below w1.heap.size w1 v) → Hid (PF v sa Aa na ca sb Ab nb cb p q) → Hid (PF v sd Ad nd cd se Ae ne ce r s) → Hid (PI v s4a A4a n4a c4a (q)) → Hid (PI v s4b A4b n4b c4b (s)) → F 4 (Array.setIfInBounds (Array.setIfInBounds L0 1 true) 3 true) (Act.put (Act.put a0 (some 23) (.agg #[.bool s4a, .slice A4a n4a c4a])) (some 25) (.agg #[.bool s4b, .slice A4b n4b c4b])) v := by
    intro s4a A4a n4a c4a s4b A4b n4b c4b v HX_j a_j b_j N0_j N1_j
    subst hF ha0 hL0
    simp only [PT] at J1_3_4 J1_3_5 ⊢
    have hHeld := HS4.out _ HX_j.out
    refine wpAnyH_ready (rs := [4, 5]) (by kernel_rfl) (by simp) ?_
    refine .cons rfl (fun K hK => ?_) ?_
    go_simp
    have HB_6 := hJ ((Below.refl v.heap.size v).alloc (Nat.le_refl _) (.cells #[.bool false, .slice none 0 0] 33))
    have HP_x_6 := hJ (P2.lit v 33 (.bool false) (.slice none 0 0))
    obtain ⟨v6, hV⟩ := nmz (World.alloc v (.cells #[.bool false, .slice none 0 0] 33))
    obtain ⟨gx, hg⟩ := nmz (v.heap.size)
    rw [hV] at HB_6 HP_x_6  ⊢
    rw [hg] at HP_x_6  ⊢
    have HG_x := hJ (show w1.heap.size ≤ gx by rw [← hg]; exact HX_j.out.size)
    have HX_6 := hJ (bt HX_j.out HB_6.out)
    have a_6 := hJ ((a_j.out).new HB_6.out)
    have b_6 := hJ ((b_j.out).new HB_6.out)
    have N0_6 := hJ (PIo.new N0_j.out HB_6.out)
    have N1_6 := hJ (PIo.new N1_j.out HB_6.out)
    clear hHeld
    refine hK.out _ _ (HS4.out _ HX_6.out) (fun hHeld => ?_)
    clear hK K hV hg HB_6 HX_j a_j b_j N0_j N1_j
    try simp only [PT]
    exact wpAnyH_cast (by kernel_rfl) (J1_3_4 s4a A4a n4a c4a s4b A4b n4b c4b gx v6 HX_6 a_6 b_6 N0_6 N1_6 HP_x_6 (hJ (HG_x.out)))
    refine .cons rfl (fun K hK => ?_) .nil
    go_simp
    have HB_7 := hJ ((Below.refl v.heap.size v).alloc (Nat.le_refl _) (.cells #[.bool false, .slice none 0 0] 33))
    have HP_y_7 := hJ (P2.lit v 33 (.bool false) (.slice none 0 0))
    obtain ⟨v7, hV⟩ := nmz (World.alloc v (.cells #[.bool false, .slice none 0 0] 33))
    obtain ⟨gy, hg⟩ := nmz (v.heap.size)
    rw [hV] at HB_7 HP_y_7  ⊢
    rw [hg] at HP_y_7  ⊢
    have HG_y := hJ (show w1.heap.size ≤ gy by rw [← hg]; exact HX_j.out.size)
    have HX_7 := hJ (bt HX_j.out HB_7.out)
    have a_7 := hJ ((a_j.out).new HB_7.out)
    have b_7 := hJ ((b_j.out).new HB_7.out)
    have N0_7 := hJ (PIo.new N0_j.out HB_7.out)
    have N1_7 := hJ (PIo.new N1_j.out HB_7.out)
    clear hHeld
    refine hK.out _ _ (HS4.out _ HX_7.out) (fun hHeld => ?_)
    clear hK K hV hg HB_7 HX_j a_j b_j N0_j N1_j
    try simp only [PT]
    exact wpAnyH_cast (by kernel_rfl) (J1_3_5 s4a A4a n4a c4a s4b A4b n4b c4b gy v7 HX_7 a_7 b_7 N0_7 N1_7 HP_y_7 (hJ (HG_y.out)))
   have J1_4 : ∀ (s4a : Bool) (A4a : Option Addr) (n4a : Nat) (c4a : Nat) (gx : Nat) (v : World), Hid (Below w1.heap.size w1 v) → Hid (PF v sa Aa na ca sb Ab nb cb p q) → Hid (PF v sd Ad nd cd se Ae ne ce r s) → Hid (PI v s4a A4a n4a c4a (q)) → Hid (P2 33 v gx (.bool false) (.slice none 0 0)) → Hid (w1.heap.size ≤ gx) → F 4 (Array.setIfInBounds (Array.setIfInBounds L0 1 true) 4 true) (Act.put (Act.put a0 (some 23) (.agg #[.bool s4a, .slice A4a n4a c4a])) (some 5) (.pointer (some ⟨gx, 0, none⟩))) v := by
    intro s4a A4a n4a c4a gx v HX_j a_j b_j N0_j HP_x_j HG_x_j
    subst hF ha0 hL0
    simp only [PT] at J1_3_4 J1_4_5 ⊢
    have hHeld := HS4.out _ HX_j.out
    refine wpAnyH_ready (rs := [3, 5]) (by kernel_rfl) (by simp) ?_
    refine .cons rfl (fun K hK => ?_) ?_
    go_simp
    go_at_call_of 51 (#[Value.agg #[.bool sd, .slice Ad nd cd, .bool se, .slice Ae ne ce]])
    refine (den_any r s sd se Ad Ae nd cd ne ce v (b_j.out) (by omega) HL0.out.2.1).mono ?_
    rintro e v8 ⟨s4b, A4b, n4b, c4b, rfl, hr, hk⟩
    have N1_8 := hJ (hr)
    have HB_8 := hJ hk
    go_wp2_with fail
    have HX_8 := hJ (bt HX_j.out HB_8.out)
    have a_8 := hJ ((a_j.out).new HB_8.out)
    have b_8 := hJ ((b_j.out).new HB_8.out)
    have N0_8 := hJ (PIo.new N0_j.out HB_8.out)
    have HP_x_8 := hJ (HP_x_j.out.new HB_8.out)
    clear hHeld
    refine hK.out _ _ (HS4.out _ HX_8.out) (fun hHeld => ?_)
    clear hK K hk HB_8 hr HX_j a_j b_j N0_j HP_x_j
    try simp only [PT]
    exact wpAnyH_cast (by kernel_rfl) (J1_3_4 s4a A4a n4a c4a s4b A4b n4b c4b gx v8 HX_8 a_8 b_8 N0_8 N1_8 HP_x_8 (hJ (HG_x_j.out)))
    refine .cons rfl (fun K hK => ?_) .nil
    go_simp
    have HB_9 := hJ ((Below.refl v.heap.size v).alloc (Nat.le_refl _) (.cells #[.bool false, .slice none 0 0] 33))
    have HP_y_9 := hJ (P2.lit v 33 (.bool false) (.slice none 0 0))
    obtain ⟨v9, hV⟩ := nmz (World.alloc v (.cells #[.bool false, .slice none 0 0] 33))
    obtain ⟨gy, hg⟩ := nmz (v.heap.size)
    rw [hV] at HB_9 HP_y_9  ⊢
    rw [hg] at HP_y_9  ⊢
    have HG_y := hJ (show w1.heap.size ≤ gy by rw [← hg]; exact HX_j.out.size)
    have HN_x_y := hJ (show gx ≠ gy by have := HP_x_j.out.lt; rw [hg] at this; omega)
    have HX_9 := hJ (bt HX_j.out HB_9.out)
    have a_9 := hJ ((a_j.out).new HB_9.out)
    have b_9 := hJ ((b_j.out).new HB_9.out)
    have N0_9 := hJ (PIo.new N0_j.out HB_9.out)
    have HP_x_9 := hJ (HP_x_j.out.new HB_9.out)
    clear hHeld
    refine hK.out _ _ (HS4.out _ HX_9.out) (fun hHeld => ?_)
    clear hK K hV hg HB_9 HX_j a_j b_j N0_j HP_x_j
    try simp only [PT]
    exact wpAnyH_cast (by kernel_rfl) (J1_4_5 s4a A4a n4a c4a gx gy v9 HX_9 a_9 b_9 N0_9 HP_x_9 (hJ (HG_x_j.out)) HP_y_9 (hJ (HG_y.out)) (hJ (HN_x_y.out)))
   have J1_5 : ∀ (s4a : Bool) (A4a : Option Addr) (n4a : Nat) (c4a : Nat) (gy : Nat) (v : World), Hid (Below w1.heap.size w1 v) → Hid (PF v sa Aa na ca sb Ab nb cb p q) → Hid (PF v sd Ad nd cd se Ae ne ce r s) → Hid (PI v s4a A4a n4a c4a (q)) → Hid (P2 33 v gy (.bool false) (.slice none 0 0)) → Hid (w1.heap.size ≤ gy) → F 4 (Array.setIfInBounds (Array.setIfInBounds L0 1 true) 5 true) (Act.put (Act.put a0 (some 23) (.agg #[.bool s4a, .slice A4a n4a c4a])) (some 6) (.pointer (some ⟨gy, 0, none⟩))) v := by
    intro s4a A4a n4a c4a gy v HX_j a_j b_j N0_j HP_y_j HG_y_j
    subst hF ha0 hL0
    simp only [PT] at J1_3_5 J1_4_5 ⊢
    have hHeld := HS4.out _ HX_j.out
    refine wpAnyH_ready (rs := [3, 4]) (by kernel_rfl) (by simp) ?_
    refine .cons rfl (fun K hK => ?_) ?_
    go_simp
    go_at_call_of 51 (#[Value.agg #[.bool sd, .slice Ad nd cd, .bool se, .slice Ae ne ce]])
    refine (den_any r s sd se Ad Ae nd cd ne ce v (b_j.out) (by omega) HL0.out.2.1).mono ?_
    rintro e v10 ⟨s4b, A4b, n4b, c4b, rfl, hr, hk⟩
    have N1_10 := hJ (hr)
    have HB_10 := hJ hk
    go_wp2_with fail
    have HX_10 := hJ (bt HX_j.out HB_10.out)
    have a_10 := hJ ((a_j.out).new HB_10.out)
    have b_10 := hJ ((b_j.out).new HB_10.out)
    have N0_10 := hJ (PIo.new N0_j.out HB_10.out)
    have HP_y_10 := hJ (HP_y_j.out.new HB_10.out)
    clear hHeld
    refine hK.out _ _ (HS4.out _ HX_10.out) (fun hHeld => ?_)
    clear hK K hk HB_10 hr HX_j a_j b_j N0_j HP_y_j
    try simp only [PT]
    exact wpAnyH_cast (by kernel_rfl) (J1_3_5 s4a A4a n4a c4a s4b A4b n4b c4b gy v10 HX_10 a_10 b_10 N0_10 N1_10 HP_y_10 (hJ (HG_y_j.out)))
    refine .cons rfl (fun K hK => ?_) .nil
    go_simp
    have HB_11 := hJ ((Below.refl v.heap.size v).alloc (Nat.le_refl _) (.cells #[.bool false, .slice none 0 0] 33))
    have HP_x_11 := hJ (P2.lit v 33 (.bool false) (.slice none 0 0))
    obtain ⟨v11, hV⟩ := nmz (World.alloc v (.cells #[.bool false, .slice none 0 0] 33))
    obtain ⟨gx, hg⟩ := nmz (v.heap.size)
    rw [hV] at HB_11 HP_x_11  ⊢
    rw [hg] at HP_x_11  ⊢
    have HG_x := hJ (show w1.heap.size ≤ gx by rw [← hg]; exact HX_j.out.size)
    have HN_y_x := hJ (show gy ≠ gx by have := HP_y_j.out.lt; rw [hg] at this; omega)
    have HX_11 := hJ (bt HX_j.out HB_11.out)
    have a_11 := hJ ((a_j.out).new HB_11.out)
    have b_11 := hJ ((b_j.out).new HB_11.out)
    have N0_11 := hJ (PIo.new N0_j.out HB_11.out)
    have HP_y_11 := hJ (HP_y_j.out.new HB_11.out)
    clear hHeld
    refine hK.out _ _ (HS4.out _ HX_11.out) (fun hHeld => ?_)
    clear hK K hV hg HB_11 HX_j a_j b_j N0_j HP_y_j
    try simp only [PT]
    exact wpAnyH_cast (by kernel_rfl) (J1_4_5 s4a A4a n4a c4a gx gy v11 HX_11 a_11 b_11 N0_11 HP_x_11 (hJ (HG_x.out)) HP_y_11 (hJ (HG_y_j.out)) (hJ (HN_y_x.out.symm)))
   have J4_5 : ∀ (gx : Nat) (gy : Nat) (v : World), Hid (Below w1.heap.size w1 v) → Hid (PF v sa Aa na ca sb Ab nb cb p q) → Hid (PF v sd Ad nd cd se Ae ne ce r s) → Hid (P2 33 v gx (.bool false) (.slice none 0 0)) → Hid (w1.heap.size ≤ gx) → Hid (P2 33 v gy (.bool false) (.slice none 0 0)) → Hid (w1.heap.size ≤ gy) → Hid (gx ≠ gy) → F 4 (Array.setIfInBounds (Array.setIfInBounds L0 4 true) 5 true) (Act.put (Act.put a0 (some 5) (.pointer (some ⟨gx, 0, none⟩))) (some 6) (.pointer (some ⟨gy, 0, none⟩))) v := by
    intro gx gy v HX_j a_j b_j HP_x_j HG_x_j HP_y_j HG_y_j HN_x_y_j
    subst hF ha0 hL0
    simp only [PT] at J1_4_5 ⊢
    have hHeld := HS4.out _ HX_j.out
    refine wpAnyH_ready (rs := [1]) (by kernel_rfl) (by simp) ?_
    refine .cons rfl (fun K hK => ?_) .nil
    go_simp
    go_at_call_of 51 (#[Value.agg #[.bool sa, .slice Aa na ca, .bool sb, .slice Ab nb cb]])
    refine (den_any p q sa sb Aa Ab na ca nb cb v (a_j.out) (by omega) HL0.out.1).mono ?_
    rintro e v12 ⟨s4a, A4a, n4a, c4a, rfl, hr, hk⟩
    have N0_12 := hJ (hr)
    have HB_12 := hJ hk
    go_wp2_with fail
    have HX_12 := hJ (bt HX_j.out HB_12.out)
    have a_12 := hJ ((a_j.out).new HB_12.out)
    have b_12 := hJ ((b_j.out).new HB_12.out)
    have HP_x_12 := hJ (HP_x_j.out.new HB_12.out)
    have HP_y_12 := hJ (HP_y_j.out.new HB_12.out)
    clear hHeld
    refine hK.out _ _ (HS4.out _ HX_12.out) (fun hHeld => ?_)
    clear hK K hk HB_12 hr HX_j a_j b_j HP_x_j HP_y_j
    try simp only [PT]
    exact wpAnyH_cast (by kernel_rfl) (J1_4_5 s4a A4a n4a c4a gx gy v12 HX_12 a_12 b_12 N0_12 HP_x_12 (hJ (HG_x_j.out)) HP_y_12 (hJ (HG_y_j.out)) (hJ (HN_x_y_j.out)))
   have J1 : ∀ (s4a : Bool) (A4a : Option Addr) (n4a : Nat) (c4a : Nat) (v : World), Hid (Below w1.heap.size w1 v) → Hid (PF v sa Aa na ca sb Ab nb cb p q) → Hid (PF v sd Ad nd cd se Ae ne ce r s) → Hid (PI v s4a A4a n4a c4a (q)) → F 5 (Array.setIfInBounds L0 1 true) (Act.put a0 (some 23) (.agg #[.bool s4a, .slice A4a n4a c4a])) v := by
    intro s4a A4a n4a c4a v HX_j a_j b_j N0_j
    subst hF ha0 hL0
    simp only [PT] at J1_3 J1_4 J1_5 ⊢
    have hHeld := HS4.out _ HX_j.out
    refine wpAnyH_ready (rs := [3, 4, 5]) (by kernel_rfl) (by simp) ?_
    refine .cons rfl (fun K hK => ?_) ?_
    go_simp
    go_at_call_of 51 (#[Value.agg #[.bool sd, .slice Ad nd cd, .bool se, .slice Ae ne ce]])
    refine (den_any r s sd se Ad Ae nd cd ne ce v (b_j.out) (by omega) HL0.out.2.1).mono ?_
    rintro e v13 ⟨s4b, A4b, n4b, c4b, rfl, hr, hk⟩
    have N1_13 := hJ (hr)
    have HB_13 := hJ hk
    go_wp2_with fail
    have HX_13 := hJ (bt HX_j.out HB_13.out)
    have a_13 := hJ ((a_j.out).new HB_13.out)
    have b_13 := hJ ((b_j.out).new HB_13.out)
    have N0_13 := hJ (PIo.new N0_j.out HB_13.out)
    clear hHeld
    refine hK.out _ _ (HS4.out _ HX_13.out) (fun hHeld => ?_)
    clear hK K hk HB_13 hr HX_j a_j b_j N0_j
    try simp only [PT]
    exact wpAnyH_cast (by kernel_rfl) (J1_3 s4a A4a n4a c4a s4b A4b n4b c4b v13 HX_13 a_13 b_13 N0_13 N1_13)
    refine .cons rfl (fun K hK => ?_) ?_
    go_simp
    have HB_14 := hJ ((Below.refl v.heap.size v).alloc (Nat.le_refl _) (.cells #[.bool false, .slice none 0 0] 33))
    have HP_x_14 := hJ (P2.lit v 33 (.bool false) (.slice none 0 0))
    obtain ⟨v14, hV⟩ := nmz (World.alloc v (.cells #[.bool false, .slice none 0 0] 33))
    obtain ⟨gx, hg⟩ := nmz (v.heap.size)
    rw [hV] at HB_14 HP_x_14  ⊢
    rw [hg] at HP_x_14  ⊢
    have HG_x := hJ (show w1.heap.size ≤ gx by rw [← hg]; exact HX_j.out.size)
    have HX_14 := hJ (bt HX_j.out HB_14.out)
    have a_14 := hJ ((a_j.out).new HB_14.out)
    have b_14 := hJ ((b_j.out).new HB_14.out)
    have N0_14 := hJ (PIo.new N0_j.out HB_14.out)
    clear hHeld
    refine hK.out _ _ (HS4.out _ HX_14.out) (fun hHeld => ?_)
    clear hK K hV hg HB_14 HX_j a_j b_j N0_j
    try simp only [PT]
    exact wpAnyH_cast (by kernel_rfl) (J1_4 s4a A4a n4a c4a gx v14 HX_14 a_14 b_14 N0_14 HP_x_14 (hJ (HG_x.out)))
    refine .cons rfl (fun K hK => ?_) .nil
    go_simp
    have HB_15 := hJ ((Below.refl v.heap.size v).alloc (Nat.le_refl _) (.cells #[.bool false, .slice none 0 0] 33))
    have HP_y_15 := hJ (P2.lit v 33 (.bool false) (.slice none 0 0))
    obtain ⟨v15, hV⟩ := nmz (World.alloc v (.cells #[.bool false, .slice none 0 0] 33))
    obtain ⟨gy, hg⟩ := nmz (v.heap.size)
    rw [hV] at HB_15 HP_y_15  ⊢
    rw [hg] at HP_y_15  ⊢
    have HG_y := hJ (show w1.heap.size ≤ gy by rw [← hg]; exact HX_j.out.size)
    have HX_15 := hJ (bt HX_j.out HB_15.out)
    have a_15 := hJ ((a_j.out).new HB_15.out)
    have b_15 := hJ ((b_j.out).new HB_15.out)
    have N0_15 := hJ (PIo.new N0_j.out HB_15.out)
    clear hHeld
    refine hK.out _ _ (HS4.out _ HX_15.out) (fun hHeld => ?_)
    clear hK K hV hg HB_15 HX_j a_j b_j N0_j
    try simp only [PT]
    exact wpAnyH_cast (by kernel_rfl) (J1_5 s4a A4a n4a c4a gy v15 HX_15 a_15 b_15 N0_15 HP_y_15 (hJ (HG_y.out)))
   have J4 : ∀ (gx : Nat) (v : World), Hid (Below w1.heap.size w1 v) → Hid (PF v sa Aa na ca sb Ab nb cb p q) → Hid (PF v sd Ad nd cd se Ae ne ce r s) → Hid (P2 33 v gx (.bool false) (.slice none 0 0)) → Hid (w1.heap.size ≤ gx) → F 5 (Array.setIfInBounds L0 4 true) (Act.put a0 (some 5) (.pointer (some ⟨gx, 0, none⟩))) v := by
    intro gx v HX_j a_j b_j HP_x_j HG_x_j
    subst hF ha0 hL0
    simp only [PT] at J1_4 J4_5 ⊢
    have hHeld := HS4.out _ HX_j.out
    refine wpAnyH_ready (rs := [1, 5]) (by kernel_rfl) (by simp) ?_
    refine .cons rfl (fun K hK => ?_) ?_
    go_simp
    go_at_call_of 51 (#[Value.agg #[.bool sa, .slice Aa na ca, .bool sb, .slice Ab nb cb]])
    refine (den_any p q sa sb Aa Ab na ca nb cb v (a_j.out) (by omega) HL0.out.1).mono ?_
    rintro e v16 ⟨s4a, A4a, n4a, c4a, rfl, hr, hk⟩
    have N0_16 := hJ (hr)
    have HB_16 := hJ hk
    go_wp2_with fail
    have HX_16 := hJ (bt HX_j.out HB_16.out)
    have a_16 := hJ ((a_j.out).new HB_16.out)
    have b_16 := hJ ((b_j.out).new HB_16.out)
    have HP_x_16 := hJ (HP_x_j.out.new HB_16.out)
    clear hHeld
    refine hK.out _ _ (HS4.out _ HX_16.out) (fun hHeld => ?_)
    clear hK K hk HB_16 hr HX_j a_j b_j HP_x_j
    try simp only [PT]
    exact wpAnyH_cast (by kernel_rfl) (J1_4 s4a A4a n4a c4a gx v16 HX_16 a_16 b_16 N0_16 HP_x_16 (hJ (HG_x_j.out)))
    refine .cons rfl (fun K hK => ?_) .nil
    go_simp
    have HB_17 := hJ ((Below.refl v.heap.size v).alloc (Nat.le_refl _) (.cells #[.bool false, .slice none 0 0] 33))
    have HP_y_17 := hJ (P2.lit v 33 (.bool false) (.slice none 0 0))
    obtain ⟨v17, hV⟩ := nmz (World.alloc v (.cells #[.bool false, .slice none 0 0] 33))
    obtain ⟨gy, hg⟩ := nmz (v.heap.size)
    rw [hV] at HB_17 HP_y_17  ⊢
    rw [hg] at HP_y_17  ⊢
    have HG_y := hJ (show w1.heap.size ≤ gy by rw [← hg]; exact HX_j.out.size)
    have HN_x_y := hJ (show gx ≠ gy by have := HP_x_j.out.lt; rw [hg] at this; omega)
    have HX_17 := hJ (bt HX_j.out HB_17.out)
    have a_17 := hJ ((a_j.out).new HB_17.out)
    have b_17 := hJ ((b_j.out).new HB_17.out)
    have HP_x_17 := hJ (HP_x_j.out.new HB_17.out)
    clear hHeld
    refine hK.out _ _ (HS4.out _ HX_17.out) (fun hHeld => ?_)
    clear hK K hV hg HB_17 HX_j a_j b_j HP_x_j
    try simp only [PT]
    exact wpAnyH_cast (by kernel_rfl) (J4_5 gx gy v17 HX_17 a_17 b_17 HP_x_17 (hJ (HG_x_j.out)) HP_y_17 (hJ (HG_y.out)) (hJ (HN_x_y.out)))
   have J5 : ∀ (gy : Nat) (v : World), Hid (Below w1.heap.size w1 v) → Hid (PF v sa Aa na ca sb Ab nb cb p q) → Hid (PF v sd Ad nd cd se Ae ne ce r s) → Hid (P2 33 v gy (.bool false) (.slice none 0 0)) → Hid (w1.heap.size ≤ gy) → F 5 (Array.setIfInBounds L0 5 true) (Act.put a0 (some 6) (.pointer (some ⟨gy, 0, none⟩))) v := by
    intro gy v HX_j a_j b_j HP_y_j HG_y_j
    subst hF ha0 hL0
    simp only [PT] at J1_5 J4_5 ⊢
    have hHeld := HS4.out _ HX_j.out
    refine wpAnyH_ready (rs := [1, 4]) (by kernel_rfl) (by simp) ?_
    refine .cons rfl (fun K hK => ?_) ?_
    go_simp
    go_at_call_of 51 (#[Value.agg #[.bool sa, .slice Aa na ca, .bool sb, .slice Ab nb cb]])
    refine (den_any p q sa sb Aa Ab na ca nb cb v (a_j.out) (by omega) HL0.out.1).mono ?_
    rintro e v18 ⟨s4a, A4a, n4a, c4a, rfl, hr, hk⟩
    have N0_18 := hJ (hr)
    have HB_18 := hJ hk
    go_wp2_with fail
    have HX_18 := hJ (bt HX_j.out HB_18.out)
    have a_18 := hJ ((a_j.out).new HB_18.out)
    have b_18 := hJ ((b_j.out).new HB_18.out)
    have HP_y_18 := hJ (HP_y_j.out.new HB_18.out)
    clear hHeld
    refine hK.out _ _ (HS4.out _ HX_18.out) (fun hHeld => ?_)
    clear hK K hk HB_18 hr HX_j a_j b_j HP_y_j
    try simp only [PT]
    exact wpAnyH_cast (by kernel_rfl) (J1_5 s4a A4a n4a c4a gy v18 HX_18 a_18 b_18 N0_18 HP_y_18 (hJ (HG_y_j.out)))
    refine .cons rfl (fun K hK => ?_) .nil
    go_simp
    have HB_19 := hJ ((Below.refl v.heap.size v).alloc (Nat.le_refl _) (.cells #[.bool false, .slice none 0 0] 33))
    have HP_x_19 := hJ (P2.lit v 33 (.bool false) (.slice none 0 0))
    obtain ⟨v19, hV⟩ := nmz (World.alloc v (.cells #[.bool false, .slice none 0 0] 33))
    obtain ⟨gx, hg⟩ := nmz (v.heap.size)
    rw [hV] at HB_19 HP_x_19  ⊢
    rw [hg] at HP_x_19  ⊢
    have HG_x := hJ (show w1.heap.size ≤ gx by rw [← hg]; exact HX_j.out.size)
    have HN_y_x := hJ (show gy ≠ gx by have := HP_y_j.out.lt; rw [hg] at this; omega)
    have HX_19 := hJ (bt HX_j.out HB_19.out)
    have a_19 := hJ ((a_j.out).new HB_19.out)
    have b_19 := hJ ((b_j.out).new HB_19.out)
    have HP_y_19 := hJ (HP_y_j.out.new HB_19.out)
    clear hHeld
    refine hK.out _ _ (HS4.out _ HX_19.out) (fun hHeld => ?_)
    clear hK K hV hg HB_19 HX_j a_j b_j HP_y_j
    try simp only [PT]
    exact wpAnyH_cast (by kernel_rfl) (J4_5 gx gy v19 HX_19 a_19 b_19 HP_x_19 (hJ (HG_x.out)) HP_y_19 (hJ (HG_y_j.out)) (hJ (HN_y_x.out.symm)))
   subst hF ha0 hL0
   simp only [PT] at J1 J4 J5
   refine wpAnyH_ready (rs := [1, 4, 5]) (by kernel_rfl) (by simp) ?_
   refine .cons rfl (fun K hK => ?_) ?_
   go_simp
   go_at_call_of 51 (#[Value.agg #[.bool sa, .slice Aa na ca, .bool sb, .slice Ab nb cb]])
   refine (den_any p q sa sb Aa Ab na ca nb cb v0 (a_0.out) (by omega) HL0.out.1).mono ?_
   rintro e v20 ⟨s4a, A4a, n4a, c4a, rfl, hr, hk⟩
   have N0_20 := hJ (hr)
   have HB_20 := hJ hk
   go_wp2_with fail
   have HX_20 := hJ (bt HD0.out HB_20.out)
   have a_20 := hJ ((a_0.out).new HB_20.out)
   have b_20 := hJ ((b_0.out).new HB_20.out)
   clear hHeld
   refine hK.out _ _ (HS4.out _ HX_20.out) (fun hHeld => ?_)
   clear hK K hk HB_20 hr HD0 a_0 b_0
   try simp only [PT]
   exact wpAnyH_cast (by kernel_rfl) (J1 s4a A4a n4a c4a v20 HX_20 a_20 b_20 N0_20)
   refine .cons rfl (fun K hK => ?_) ?_
   go_simp
   have HB_21 := hJ ((Below.refl v0.heap.size v0).alloc (Nat.le_refl _) (.cells #[.bool false, .slice none 0 0] 33))
   have HP_x_21 := hJ (P2.lit v0 33 (.bool false) (.slice none 0 0))
   obtain ⟨v21, hV⟩ := nmz (World.alloc v0 (.cells #[.bool false, .slice none 0 0] 33))
   obtain ⟨gx, hg⟩ := nmz (v0.heap.size)
   rw [hV] at HB_21 HP_x_21  ⊢
   rw [hg] at HP_x_21  ⊢
   have HG_x := hJ (show w1.heap.size ≤ gx by rw [← hg]; exact HD0.out.size)
   have HX_21 := hJ (bt HD0.out HB_21.out)
   have a_21 := hJ ((a_0.out).new HB_21.out)
   have b_21 := hJ ((b_0.out).new HB_21.out)
   clear hHeld
   refine hK.out _ _ (HS4.out _ HX_21.out) (fun hHeld => ?_)
   clear hK K hV hg HB_21 HD0 a_0 b_0
   try simp only [PT]
   exact wpAnyH_cast (by kernel_rfl) (J4 gx v21 HX_21 a_21 b_21 HP_x_21 (hJ (HG_x.out)))
   refine .cons rfl (fun K hK => ?_) .nil
   go_simp
   have HB_22 := hJ ((Below.refl v0.heap.size v0).alloc (Nat.le_refl _) (.cells #[.bool false, .slice none 0 0] 33))
   have HP_y_22 := hJ (P2.lit v0 33 (.bool false) (.slice none 0 0))
   obtain ⟨v22, hV⟩ := nmz (World.alloc v0 (.cells #[.bool false, .slice none 0 0] 33))
   obtain ⟨gy, hg⟩ := nmz (v0.heap.size)
   rw [hV] at HB_22 HP_y_22  ⊢
   rw [hg] at HP_y_22  ⊢
   have HG_y := hJ (show w1.heap.size ≤ gy by rw [← hg]; exact HD0.out.size)
   have HX_22 := hJ (bt HD0.out HB_22.out)
   have a_22 := hJ ((a_0.out).new HB_22.out)
   have b_22 := hJ ((b_0.out).new HB_22.out)
   clear hHeld
   refine hK.out _ _ (HS4.out _ HX_22.out) (fun hHeld => ?_)
   clear hK K hV hg HB_22 HD0 a_0 b_0
   try simp only [PT]
   exact wpAnyH_cast (by kernel_rfl) (J5 gy v22 HX_22 a_22 b_22 HP_y_22 (hJ (HG_y.out)))
  case rest =>
   obtain ⟨G4, H4, s4a, A4a, n4a, c4a, s4b, A4b, n4b, c4b, rfl, rfl, hq1, hq2, hr1, hr2, hbx⟩ := hcut
   have HQ4a := hJ hq1
   have HQ4b := hJ hq2
   have HR4a := hJ hr1
   have HR4b := hJ hr2
   have HB4 := hJ hbx
   obtain ⟨x4, rfl⟩ := nm_world hbx
   clear hq1 hq2 hr1 hr2 hbx HS4 HXX4
   have hn4a : n4a ≤ 512 := plim HR4a.out HL0.out.2.2.2.1
   have hn4b : n4b ≤ 512 := plim HR4b.out HL0.out.2.2.2.2.2
   have HQa_4 := hJ (HQa_1.out.new HB4.out)
   have HRa_4 := hJ (HRa_1.out.new HB4.out)
   have HQd_4 := hJ (HQd_1.out.new HB4.out)
   have HRd_4 := hJ (HRd_1.out.new HB4.out)
   have HW_4 := hJ (bt HW_1.out HB4.out)
   clear HQa_1 HRa_1 HQd_1 HRd_1 HW_1 HB4
   obtain ⟨cla0_4, cla1_4, cla2_4, cla3_4⟩ := HQa_4.out.cells
   obtain ⟨cls0_5, cls1_5⟩ := HQ4b.out.cells
   obtain ⟨x5, hx5⟩ := nmz (x4.alloc (.cells #[.bool s4b, .slice A4b n4b c4b] 33))
   have HB5 := hJ (show Below x4.heap.size x4 x5 by rw [← hx5]; exact (Below.refl _ _).alloc (Nat.le_refl _) _)
   have HY5 := hJ (show Pel x5 x4.heap.size [s] ∧ x4.heap.size < x5.heap.size by rw [← hx5]; exact ⟨pel_lit1 HR4b.out HL0.out.2.2.2.2.2, by simp⟩)
   have HQa_5 := hJ (HQa_4.out.new HB5.out)
   have HRa_5 := hJ (HRa_4.out.new HB5.out)
   have HQd_5 := hJ (HQd_4.out.new HB5.out)
   have HRd_5 := hJ (HRd_4.out.new HB5.out)
   have HQ4a_5 := hJ (HQ4a.out.new HB5.out)
   have HR4a_5 := hJ (PIo.new HR4a.out HB5.out)
   have HQ4b_5 := hJ (HQ4b.out.new HB5.out)
   have HR4b_5 := hJ (PIo.new HR4b.out HB5.out)
   have HW_5 := hJ (bt HW_4.out HB5.out)
   clear HQa_4 HRa_4 HQd_4 HRd_4 HQ4a HR4a HQ4b HR4b HW_4 HB5
   go_wp2_with fail
   refine (fproduct_any [s] p sa Aa na ca x4.heap.size 1 x5 HRa_5.out.1 HL0.out.2.2.1 HY5.out.1 HY5.out.2 rfl (by decide)).mono ?_
   rw [(pv_one p s).1, (pv_one p s).2]
   rintro e w6 ⟨s6, A6, n6, c6, rfl, hr6, hb6⟩
   obtain ⟨x6, hx6⟩ := nmz (w6.alloc (.cells #[.bool s6, .slice A6 n6 c6] 33))
   have HB6 := hJ (show Below x5.heap.size x5 x6 by rw [← hx6]; exact hb6.alloc hb6.size _)
   have HQ6 := hJ (show P2 33 x6 w6.heap.size (.bool s6) (.slice A6 n6 c6) by rw [← hx6]; exact P2.lit _ _ _ _)
   have HR6 := hJ (show PI x6 s6 A6 n6 c6 (outV (p * s)) by rw [← hx6]; exact PIo.new hr6 ((Below.refl _ _).alloc (Nat.le_refl _) _))
   have hn6 : n6 ≤ 512 := plim hr6 (outV_lim _)
   clear hr6 hb6
   have HQa_6 := hJ (HQa_5.out.new HB6.out)
   have HRa_6 := hJ (HRa_5.out.new HB6.out)
   have HQd_6 := hJ (HQd_5.out.new HB6.out)
   have HRd_6 := hJ (HRd_5.out.new HB6.out)
   have HQ4a_6 := hJ (HQ4a_5.out.new HB6.out)
   have HR4a_6 := hJ (PIo.new HR4a_5.out HB6.out)
   have HQ4b_6 := hJ (HQ4b_5.out.new HB6.out)
   have HR4b_6 := hJ (PIo.new HR4b_5.out HB6.out)
   have HW_6 := hJ (bt HW_5.out HB6.out)
   clear HQa_5 HRa_5 HQd_5 HRd_5 HQ4a_5 HR4a_5 HQ4b_5 HR4b_5 HW_5 cla0_4 cla1_4 cla2_4 cla3_4 cls0_5 cls1_5 hx5 HB6
   obtain ⟨clb0_6, clb1_6, clb2_6, clb3_6⟩ := HQd_6.out.cells
   obtain ⟨clq0_7, clq1_7⟩ := HQ4a_6.out.cells
   obtain ⟨x7, hx7⟩ := nmz (x6.alloc (.cells #[.bool s4a, .slice A4a n4a c4a] 33))
   have HB7 := hJ (show Below x6.heap.size x6 x7 by rw [← hx7]; exact (Below.refl _ _).alloc (Nat.le_refl _) _)
   have HY7 := hJ (show Pel x7 x6.heap.size [q] ∧ x6.heap.size < x7.heap.size by rw [← hx7]; exact ⟨pel_lit1 HR4a_6.out HL0.out.2.2.2.1, by simp⟩)
   have HQa_7 := hJ (HQa_6.out.new HB7.out)
   have HRa_7 := hJ (HRa_6.out.new HB7.out)
   have HQd_7 := hJ (HQd_6.out.new HB7.out)
   have HRd_7 := hJ (HRd_6.out.new HB7.out)
   have HQ4a_7 := hJ (HQ4a_6.out.new HB7.out)
   have HR4a_7 := hJ (PIo.new HR4a_6.out HB7.out)
   have HQ4b_7 := hJ (HQ4b_6.out.new HB7.out)
   have HR4b_7 := hJ (PIo.new HR4b_6.out HB7.out)
   have HQ6_7 := hJ (HQ6.out.new HB7.out)
   have HR6_7 := hJ (PIo.new HR6.out HB7.out)
   have HW_7 := hJ (bt HW_6.out HB7.out)
   clear HQa_6 HRa_6 HQd_6 HRd_6 HQ4a_6 HR4a_6 HQ4b_6 HR4b_6 HQ6 HR6 HW_6 HB7
   go_wp2_with fail
   refine (fproduct_any [q] r sd Ad nd cd x6.heap.size 1 x7 HRd_7.out.1 HL0.out.2.2.2.2.1 HY7.out.1 HY7.out.2 rfl (by decide)).mono ?_
   rw [(pv_one r q).1, (pv_one r q).2]
   rintro e w8 ⟨s8, A8, n8, c8, rfl, hr8, hb8⟩
   obtain ⟨x8, hx8⟩ := nmz (w8.alloc (.cells #[.bool s8, .slice A8 n8 c8] 33))
   have HB8 := hJ (show Below x7.heap.size x7 x8 by rw [← hx8]; exact hb8.alloc hb8.size _)
   have HQ8 := hJ (show P2 33 x8 w8.heap.size (.bool s8) (.slice A8 n8 c8) by rw [← hx8]; exact P2.lit _ _ _ _)
   have HR8 := hJ (show PI x8 s8 A8 n8 c8 (outV (r * q)) by rw [← hx8]; exact PIo.new hr8 ((Below.refl _ _).alloc (Nat.le_refl _) _))
   have hn8 : n8 ≤ 512 := plim hr8 (outV_lim _)
   clear hr8 hb8
   have HQa_8 := hJ (HQa_7.out.new HB8.out)
   have HRa_8 := hJ (HRa_7.out.new HB8.out)
   have HQd_8 := hJ (HQd_7.out.new HB8.out)
   have HRd_8 := hJ (HRd_7.out.new HB8.out)
   have HQ4a_8 := hJ (HQ4a_7.out.new HB8.out)
   have HR4a_8 := hJ (PIo.new HR4a_7.out HB8.out)
   have HQ4b_8 := hJ (HQ4b_7.out.new HB8.out)
   have HR4b_8 := hJ (PIo.new HR4b_7.out HB8.out)
   have HQ6_8 := hJ (HQ6_7.out.new HB8.out)
   have HR6_8 := hJ (PIo.new HR6_7.out HB8.out)
   have HW_8 := hJ (bt HW_7.out HB8.out)
   clear HQa_7 HRa_7 HQd_7 HRd_7 HQ4a_7 HR4a_7 HQ4b_7 HR4b_7 HQ6_7 HR6_7 HW_7 hx6 clb0_6 clb1_6 clb2_6 clb3_6 clq0_7 clq1_7 hx7 HB8
   obtain ⟨x9, hx9⟩ := nmz (x8.alloc (.cells #[.int .i64 (outC (p * s)), .int .i64 (outC (r * q))] 36))
   have HB9 := hJ (show Below x8.heap.size x8 x9 by rw [← hx9]; exact (Below.refl _ _).alloc (Nat.le_refl _) _)
   have HY9 := hJ (show Codes x9 x8.heap.size [outC (p * s), outC (r * q)] by rw [← hx9]; exact codes_lit2 _ _)
   have HQa_9 := hJ (HQa_8.out.new HB9.out)
   have HRa_9 := hJ (HRa_8.out.new HB9.out)
   have HQd_9 := hJ (HQd_8.out.new HB9.out)
   have HRd_9 := hJ (HRd_8.out.new HB9.out)
   have HQ4a_9 := hJ (HQ4a_8.out.new HB9.out)
   have HR4a_9 := hJ (PIo.new HR4a_8.out HB9.out)
   have HQ4b_9 := hJ (HQ4b_8.out.new HB9.out)
   have HR4b_9 := hJ (PIo.new HR4b_8.out HB9.out)
   have HQ6_9 := hJ (HQ6_8.out.new HB9.out)
   have HR6_9 := hJ (PIo.new HR6_8.out HB9.out)
   have HQ8_9 := hJ (HQ8.out.new HB9.out)
   have HR8_9 := hJ (PIo.new HR8.out HB9.out)
   have HW_9 := hJ (bt HW_8.out HB9.out)
   clear HQa_8 HRa_8 HQd_8 HRd_8 HQ4a_8 HR4a_8 HQ4b_8 HR4b_8 HQ6_8 HR6_8 HQ8 HR8 HW_8 HB9
   go_wp2_with fail
   refine (ferror_any [outC (p * s), outC (r * q)] x8.heap.size 2 x9 HY9.out rfl (by decide)).mono ?_
   have HCC := hJ (two_codes (p * s) (r * q))
   obtain ⟨u, hu⟩ : ∃ u, feV [outC (p * s), outC (r * q)] = u := ⟨_, rfl⟩
   rw [hu] at HCC ⊢
   clear hu
   rintro e w' ⟨rfl, rfl⟩
   by_cases hu : u = 0
   ·have HE := hJ (HCC.out hu)
    subst hu
    obtain ⟨clleft0_10, clleft1_10⟩ := HQ6_9.out.cells
    obtain ⟨clright0_10, clright1_10⟩ := HQ8_9.out.cells
    go_wp2_with fail
    refine (pcompare_any (p * s) (r * q) s6 s8 A6 A8 n6 c6 n8 c8 x9 (PIo.eq HR6_9.out HE.out.1) (PIo.eq HR8_9.out HE.out.2) (by omega) (by omega)).mono ?_
    rintro e w2 ⟨rfl, hb2⟩
    have HB2 := hJ (bt HW_9.out hb2)
    clear hb2
    go_wp2
    go_ret
    exact ⟨rfl, HB2.out⟩
   ·have hub : (u == 0) = false := by simp [hu]
    clear hu HCC
    obtain ⟨cla0_11, cla1_11, cla2_11, cla3_11⟩ := HQa_9.out.cells
    obtain ⟨clb0_11, clb1_11, clb2_11, clb3_11⟩ := HQd_9.out.cells
    obtain ⟨clq0_11, clq1_11⟩ := HQ4a_9.out.cells
    obtain ⟨cls0_11, cls1_11⟩ := HQ4b_9.out.cells
    go_wp2_with fail
    refine (fparts_any p q r s sa s4a sd s4b Aa A4a Ad A4b na ca n4a c4a nd cd n4b c4b x9 HRa_9.out.1 HR4a_9.out HRd_9.out.1 HR4b_9.out HL0.out.1 HL0.out.2.1 HL0.out.2.2.1 HL0.out.2.2.2.1 HL0.out.2.2.2.2.1 HL0.out.2.2.2.2.2).mono ?_
    rintro e w2 ⟨rfl, hb2⟩
    have HB2 := hJ (bt HW_9.out hb2)
    clear hb2
    go_wp2
    go_ret
    exact ⟨rfl, HB2.out⟩

end Go.Proofs.YtbhnaffbgggabaaGreat
