/- Contracts of the program's fractions: Mul. Conditions: as each statement has them. -/
import Derived.Test.YtbhnaffbgggabaaGreatFG
import Derived.Deep.DeepCutAuto
namespace Go.Proofs.YtbhnaffbgggabaaGreat
open Go.RowKit
attribute [local go_sem ↓] Go.wp_at_zero Go.wp_at_succ
def muA (x y : Int) : Int := ((Nat.gcd x.natAbs y.natAbs : Nat) : Int)
def muN (p q r s : Int) : Int := p / muA p s * (r / muA r q)
def muD (p q r s : Int) : Int := q / muA r q * (s / muA p s)
def muK (p q r s : Int) : Prop := (muN p q r s).natAbs < lim ∧ (muD p q r s).natAbs < lim
instance (p q r s : Int) : Decidable (muK p q r s) := by unfold muK; infer_instance
def muP (p q r s : Int) : Int := if muK p q r s then muN p q r s else 0
def muQ (p q r s : Int) : Int := if muK p q r s then muD p q r s else 1
def muC (p q r s : Int) : Int := if muK p q r s then 0 else 4
theorem mu_one {x y : Int} (hy : 0 < y) (hl : y.natAbs < lim) : muA x y ≠ 0 ∧ (muA x y).natAbs < lim := by
 have h1 := Nat.gcd_pos_of_pos_right x.natAbs (show 0 < y.natAbs by omega)
 have h2 := Nat.gcd_le_right x.natAbs (show 0 < y.natAbs by omega)
 exact ⟨by unfold muA; omega, by unfold muA; rw [Int.natAbs_natCast]; omega⟩
theorem ed_lim {x y : Int} (h : x.natAbs < lim) : (x / y).natAbs < lim := Nat.lt_of_le_of_lt (Int.natAbs_ediv_le_natAbs _ _) h
theorem mu_gcd {p q r s : Int} (h : 0 < q ∧ 0 < s ∧ p.natAbs < lim ∧ q.natAbs < lim ∧ r.natAbs < lim ∧ s.natAbs < lim) : (muA p s ≠ 0 ∧ (muA p s).natAbs < lim) ∧ (muA r q ≠ 0 ∧ (muA r q).natAbs < lim) ∧ (p / muA p s).natAbs < lim ∧ (r / muA r q).natAbs < lim ∧ (q / muA r q).natAbs < lim ∧ (s / muA p s).natAbs < lim :=
 ⟨mu_one h.2.1 h.2.2.2.2.2, mu_one h.1 h.2.2.2.1, ed_lim h.2.2.1, ed_lim h.2.2.2.2.1, ed_lim h.2.2.2.1, ed_lim h.2.2.2.2.2⟩
theorem mu_codes {p q r s u v : Int} (hu : muA p s = u) (hv : muA r q = v) :
  (feV [outC (p / u * (r / v)), outC (q / v * (s / u))] = 0 → outV (p / u * (r / v)) = p / u * (r / v) ∧ outV (q / v * (s / u)) = q / v * (s / u) ∧ muP p q r s = p / u * (r / v) ∧ muQ p q r s = q / v * (s / u) ∧ muC p q r s = 0) ∧
  (feV [outC (p / u * (r / v)), outC (q / v * (s / u))] ≠ 0 → muP p q r s = 0 ∧ muQ p q r s = 1 ∧ muC p q r s = 4 ∧ feV [outC (p / u * (r / v)), outC (q / v * (s / u))] = 4) := by
 have eN : muN p q r s = p / u * (r / v) := by unfold muN; rw [hu, hv]
 have eD : muD p q r s = q / v * (s / u) := by unfold muD; rw [hu, hv]
 have eK : muK p q r s ↔ (p / u * (r / v)).natAbs < lim ∧ (q / v * (s / u)).natAbs < lim := by unfold muK; rw [eN, eD]
 have yes : muK p q r s → muP p q r s = muN p q r s ∧ muQ p q r s = muD p q r s ∧ muC p q r s = 0 := fun h => ⟨if_pos h, if_pos h, if_pos h⟩
 have no : ¬ muK p q r s → muP p q r s = 0 ∧ muQ p q r s = 1 ∧ muC p q r s = 4 := fun h => ⟨if_neg h, if_neg h, if_neg h⟩
 rw [eN, eD] at yes
 generalize p / u * (r / v) = x at *
 generalize q / v * (s / u) = y at *
 rcases outVC x with ⟨a1, a2, a3⟩ | ⟨a1, a2, a3⟩
 ·rcases outVC y with ⟨b1, b2, b3⟩ | ⟨b1, b2, b3⟩
  ·rw [a2, b2, a3, b3]
   exact ⟨fun _ => ⟨rfl, rfl, yes (eK.2 ⟨a1, b1⟩)⟩, fun h => absurd rfl h⟩
  ·rw [a3, b3]
   have n := no (fun k => b1 (eK.1 k).2)
   exact ⟨fun h => by simp [feV] at h, fun _ => ⟨n.1, n.2.1, n.2.2, by simp [feV]⟩⟩
 ·rw [a3]
  have n := no (fun k => a1 (eK.1 k).1)
  exact ⟨fun h => by simp [feV] at h, fun _ => ⟨n.1, n.2.1, n.2.2, by simp [feV]⟩⟩
set_option maxRecDepth 100000 in
set_option maxHeartbeats 6400000 in
theorem fmul_any (p q r s : Int) (sa sb sd se : Bool) (Aa Ab Ad Ae : Option Addr) (na ca nb cb nd cd ne ce : Nat) (w : World) (hx : PF w sa Aa na ca sb Ab nb cb p q) (hy : PF w sd Ad nd cd se Ae ne ce r s) (hq : 0 < q) (hs : 0 < s) (hlp : p.natAbs < lim) (hlq : q.natAbs < lim) (hlr : r.natAbs < lim) (hls : s.natAbs < lim) :
  Calls Tryz.prog 37 #[.agg #[.bool sa, .slice Aa na ca, .bool sb, .slice Ab nb cb], .agg #[.bool sd, .slice Ad nd cd, .bool se, .slice Ae ne ce]] w (RetFE (muP p q r s) (muQ p q r s) (muC p q r s) w) := by
 have HL0 := hJ (And.intro hq (And.intro hs (And.intro hlp (And.intro hlq (And.intro hlr hls)))))
 obtain ⟨W, hW⟩ : ∃ W, ((w.alloc (.cells #[.bool sa, .slice Aa na ca, .bool sb, .slice Ab nb cb] 35)).alloc (.cells #[.bool sd, .slice Ad nd cd, .bool se, .slice Ae ne ce] 35)).alloc (.cells #[.bool false, .slice none 0 0, .bool false, .slice none 0 0] 35) = W := ⟨_, rfl⟩
 have HK := hJ (show Below w.heap.size w W by rw [← hW]; exact W444_k _ _ _ _ _ _ _ _ _ _ _ _ _ _)
 have HPa := hJ (show P4 35 W w.heap.size (.bool sa) (.slice Aa na ca) (.bool sb) (.slice Ab nb cb) by rw [← hW]; exact W444_a _ _ _ _ _ _ _ _ _ _ _ _ _ _)
 have HPb := hJ (show P4 35 W (w.heap.size + 1) (.bool sd) (.slice Ad nd cd) (.bool se) (.slice Ae ne ce) by rw [← hW]; exact W444_b _ _ _ _ _ _ _ _ _ _ _ _ _ _)
 have HPz := hJ (show P4 35 W (w.heap.size + 1 + 1) (.bool false) (.slice none 0 0) (.bool false) (.slice none 0 0) by rw [← hW]; exact W444_z _ _ _ _ _ _ _ _ _ _ _ _ _ _)
 have HRa := hJ (hx.new HK.out)
 have HRb := hJ (hy.new HK.out)
 have HRz := hJ (show PF W false none 0 0 false none 0 0 0 1 from ⟨PI.zero W, PI.zero W⟩)
 have hna : na ≤ 512 := plim hx.1 hlp
 have hnb : nb ≤ 512 := plim hx.2 (dn_lim hlq)
 have hnd : nd ≤ 512 := plim hy.1 hlr
 have hne : ne ≤ 512 := plim hy.2 (dn_lim hls)
 obtain ⟨h, hh⟩ : ∃ h, w.heap.size = h := ⟨_, rfl⟩
 have HH := hJ hh
 rw [hh] at HPa HPb HPz
 clear hx hy hq hs hlp hlq hlr hls
 go_enter Tryz.func37, Tryz.ntmps37
 have HS2 : Hid (∀ w', Below W.heap.size W w' → (fun w' : World => w'.cell? ⟨h, 0, none⟩ = some (.bool sa) ∧ w'.cell? ⟨h, 1, none⟩ = some (.slice Aa na ca) ∧ w'.cell? ⟨h, 2, none⟩ = some (.bool sb) ∧ w'.cell? ⟨h, 3, none⟩ = some (.slice Ab nb cb) ∧ w'.cell? ⟨(h + 1), 0, none⟩ = some (.bool sd) ∧ w'.cell? ⟨(h + 1), 1, none⟩ = some (.slice Ad nd cd) ∧ w'.cell? ⟨(h + 1), 2, none⟩ = some (.bool se) ∧ w'.cell? ⟨(h + 1), 3, none⟩ = some (.slice Ae ne ce) ∧ Below W.heap.size W w') w') := hJ (fun w' hb => ⟨(HPa.out.new hb).cells.1, (HPa.out.new hb).cells.2.1, (HPa.out.new hb).cells.2.2.1, (HPa.out.new hb).cells.2.2.2, (HPb.out.new hb).cells.1, (HPb.out.new hb).cells.2.1, (HPb.out.new hb).cells.2.2.1, (HPb.out.new hb).cells.2.2.2, hb⟩)
 have HXX2 := hJ (Below.refl W.heap.size W)
 go_upto_region 1 with fail
 clear hW hh
 go_cut [6, 7] (fun tp tq wx => ∃ (G H : Nat) (s2a : Bool) (A2a : Option Addr) (n2a c2a : Nat) (s2b : Bool) (A2b : Option Addr) (n2b c2b : Nat), tp = .pointer (some ⟨G, 0, none⟩) ∧ tq = .pointer (some ⟨H, 0, none⟩) ∧ P2 33 wx G (.bool s2a) (.slice A2a n2a c2a) ∧ P2 33 wx H (.bool s2b) (.slice A2b n2b c2b) ∧ PI wx s2a A2a n2a c2a (q) ∧ PI wx s2b A2b n2b c2b (s) ∧ Below W.heap.size W wx)
 case first =>
  have HX_0 := HXX2
  obtain ⟨v0, hv0⟩ := nmz (World.drew W)
  have HD0 := hJ (show Below W.heap.size W v0 by rw [← hv0]; exact (Below.refl _ _).drew)
  have a_0 := hJ ((HRa.out).new HD0.out)
  have b_0 := hJ ((HRb.out).new HD0.out)
  refine wp_region_held_drew (S := (fun w' : World => w'.cell? ⟨h, 0, none⟩ = some (.bool sa) ∧ w'.cell? ⟨h, 1, none⟩ = some (.slice Aa na ca) ∧ w'.cell? ⟨h, 2, none⟩ = some (.bool sb) ∧ w'.cell? ⟨h, 3, none⟩ = some (.slice Ab nb cb) ∧ w'.cell? ⟨(h + 1), 0, none⟩ = some (.bool sd) ∧ w'.cell? ⟨(h + 1), 1, none⟩ = some (.slice Ad nd cd) ∧ w'.cell? ⟨(h + 1), 2, none⟩ = some (.bool se) ∧ w'.cell? ⟨(h + 1), 3, none⟩ = some (.slice Ae ne ce) ∧ Below W.heap.size W w')) (by kernel_rfl) ?_ (fun hHeld => ?_)
  ·rw [hv0]
   exact HS2.out _ HD0.out
  rw [hv0] at hHeld ⊢
  clear hv0 HX_0
  refine tq 0 ?_
  try simp only [PT]
  refine tq 2 ?_
  try simp only [PT]
  refine wpAnyH_name (fun F hF a0 ha0 L0 hL0 => ?_)
  have J1_3_4_5 : ∀ (s2a : Bool) (A2a : Option Addr) (n2a : Nat) (c2a : Nat) (s2b : Bool) (A2b : Option Addr) (n2b : Nat) (c2b : Nat) (gx : Nat) (gy : Nat) (v : World), Hid (Below W.heap.size W v) → Hid (PF v sa Aa na ca sb Ab nb cb p q) → Hid (PF v sd Ad nd cd se Ae ne ce r s) → Hid (PI v s2a A2a n2a c2a (q)) → Hid (PI v s2b A2b n2b c2b (s)) → Hid (P2 33 v gx (.bool false) (.slice none 0 0)) → Hid (W.heap.size ≤ gx) → Hid (P2 33 v gy (.bool false) (.slice none 0 0)) → Hid (W.heap.size ≤ gy) → Hid (gx ≠ gy) → F 2 (Array.setIfInBounds (Array.setIfInBounds (Array.setIfInBounds (Array.setIfInBounds L0 1 true) 3 true) 4 true) 5 true) (Act.put (Act.put (Act.put (Act.put a0 (some 16) (.agg #[.bool s2a, .slice A2a n2a c2a])) (some 18) (.agg #[.bool s2b, .slice A2b n2b c2b])) (some 6) (.pointer (some ⟨gx, 0, none⟩))) (some 7) (.pointer (some ⟨gy, 0, none⟩))) v := by
   intro s2a A2a n2a c2a s2b A2b n2b c2b gx gy v HX_j a_j b_j N0_j N1_j HP_x_j HG_x_j HP_y_j HG_y_j HN_x_y_j
   subst hF ha0 hL0
   simp only [PT] at  ⊢
   have hHeld := HS2.out _ HX_j.out
   refine wpAnyH_ready (rs := [6]) (by kernel_rfl) (by simp) ?_
   refine .cons rfl (fun K hK => ?_) .nil
   obtain ⟨z0, z1⟩ := HP_x_j.out.cells
   have y0 := HP_x_j.out.frozen 0
   have y1 := HP_x_j.out.frozen 1
   have z9 := HP_x_j.out.lt
   go_simp
   obtain ⟨v1, hV⟩ := nmz (World.setCell (World.setCell v ⟨gx, 0, none⟩ (.bool s2a)) ⟨gx, 1, none⟩ (.slice A2a n2a c2a))
   rw [hV]
   have HX_1 := hJ (show Below W.heap.size W v1 by rw [← hV]; exact below_box HX_j.out (HG_x_j.out) _ _)
   have a_1 := hJ (show PF v1 sa Aa na ca sb Ab nb cb p q by rw [← hV]; exact PF.box (a_j.out) (HP_x_j.out) (.bool s2a) (.slice A2a n2a c2a))
   have b_1 := hJ (show PF v1 sd Ad nd cd se Ae ne ce r s by rw [← hV]; exact PF.box (b_j.out) (HP_x_j.out) (.bool s2a) (.slice A2a n2a c2a))
   have N0_1 := hJ (show PI v1 s2a A2a n2a c2a (q) by rw [← hV]; exact PIo.box (N0_j.out) (HP_x_j.out) rfl rfl (.bool s2a) (.slice A2a n2a c2a))
   have N1_1 := hJ (show PI v1 s2b A2b n2b c2b (s) by rw [← hV]; exact PIo.box (N1_j.out) (HP_x_j.out) rfl rfl (.bool s2a) (.slice A2a n2a c2a))
   have HP_y_1 := hJ (show P2 33 v1 gy (.bool false) (.slice none 0 0) by rw [← hV]; exact HP_y_j.out.far2 (show gy ≠ gx from HN_x_y_j.out.symm) (.bool s2a) (.slice A2a n2a c2a))
   have HP_x_1 := hJ (show P2 33 v1 gx (.bool s2a) (.slice A2a n2a c2a) by rw [← hV]; exact HP_x_j.out.all (.bool s2a) (.slice A2a n2a c2a))
   clear hHeld
   refine hK.out _ _ (HS2.out _ HX_1.out) (fun hHeld => ?_)
   clear hK K hV z9 z0 z1 y0 y1 HX_j a_j b_j N0_j N1_j HP_y_j HP_x_j
   try simp only [PT]
   refine wpAnyH_ready (rs := [7]) (by kernel_rfl) (by simp) ?_
   refine .cons rfl (fun K hK => ?_) .nil
   obtain ⟨z0, z1⟩ := HP_y_1.out.cells
   have y0 := HP_y_1.out.frozen 0
   have y1 := HP_y_1.out.frozen 1
   have z9 := HP_y_1.out.lt
   go_simp
   obtain ⟨v2, hV⟩ := nmz (World.setCell (World.setCell v1 ⟨gy, 0, none⟩ (.bool s2b)) ⟨gy, 1, none⟩ (.slice A2b n2b c2b))
   rw [hV]
   have HX_2 := hJ (show Below W.heap.size W v2 by rw [← hV]; exact below_box HX_1.out (HG_y_j.out) _ _)
   have a_2 := hJ (show PF v2 sa Aa na ca sb Ab nb cb p q by rw [← hV]; exact PF.box (a_1.out) (HP_y_1.out) (.bool s2b) (.slice A2b n2b c2b))
   have b_2 := hJ (show PF v2 sd Ad nd cd se Ae ne ce r s by rw [← hV]; exact PF.box (b_1.out) (HP_y_1.out) (.bool s2b) (.slice A2b n2b c2b))
   have N0_2 := hJ (show PI v2 s2a A2a n2a c2a (q) by rw [← hV]; exact PIo.box (N0_1.out) (HP_y_1.out) rfl rfl (.bool s2b) (.slice A2b n2b c2b))
   have N1_2 := hJ (show PI v2 s2b A2b n2b c2b (s) by rw [← hV]; exact PIo.box (N1_1.out) (HP_y_1.out) rfl rfl (.bool s2b) (.slice A2b n2b c2b))
   have HP_x_2 := hJ (show P2 33 v2 gx (.bool s2a) (.slice A2a n2a c2a) by rw [← hV]; exact HP_x_1.out.far2 (show gx ≠ gy from HN_x_y_j.out) (.bool s2b) (.slice A2b n2b c2b))
   have HP_y_2 := hJ (show P2 33 v2 gy (.bool s2b) (.slice A2b n2b c2b) by rw [← hV]; exact HP_y_1.out.all (.bool s2b) (.slice A2b n2b c2b))
   clear hHeld
   refine hK.out _ _ (HS2.out _ HX_2.out) (fun hHeld => ?_)
   clear hK K hV z9 z0 z1 y0 y1 HX_1 a_1 b_1 N0_1 N1_1 HP_x_1 HP_y_1
   try simp only [PT]
   refine wpAnyH_done (by kernel_rfl) ?_ _
   clear hHeld
   go_wp2_with fail
   go_meet
   exact ⟨gx, gy, s2a, A2a, n2a, c2a, s2b, A2b, n2b, c2b, rfl, rfl, HP_x_2.out, HP_y_2.out, N0_2.out, N1_2.out, HX_2.out⟩
  have J1_3_4 : ∀ (s2a : Bool) (A2a : Option Addr) (n2a : Nat) (c2a : Nat) (s2b : Bool) (A2b : Option Addr) (n2b : Nat) (c2b : Nat) (gx : Nat) (v : World), Hid (Below W.heap.size W v) → Hid (PF v sa Aa na ca sb Ab nb cb p q) → Hid (PF v sd Ad nd cd se Ae ne ce r s) → Hid (PI v s2a A2a n2a c2a (q)) → Hid (PI v s2b A2b n2b c2b (s)) → Hid (P2 33 v gx (.bool false) (.slice none 0 0)) → Hid (W.heap.size ≤ gx) → F 3 (Array.setIfInBounds (Array.setIfInBounds (Array.setIfInBounds L0 1 true) 3 true) 4 true) (Act.put (Act.put (Act.put a0 (some 16) (.agg #[.bool s2a, .slice A2a n2a c2a])) (some 18) (.agg #[.bool s2b, .slice A2b n2b c2b])) (some 6) (.pointer (some ⟨gx, 0, none⟩))) v := by
   intro s2a A2a n2a c2a s2b A2b n2b c2b gx v HX_j a_j b_j N0_j N1_j HP_x_j HG_x_j
   subst hF ha0 hL0
   simp only [PT] at J1_3_4_5 ⊢
   have hHeld := HS2.out _ HX_j.out
   refine wpAnyH_ready (rs := [5]) (by kernel_rfl) (by simp) ?_
   refine .cons rfl (fun K hK => ?_) .nil
   go_simp
   have HB_3 := hJ ((Below.refl v.heap.size v).alloc (Nat.le_refl _) (.cells #[.bool false, .slice none 0 0] 33))
   have HP_y_3 := hJ (P2.lit v 33 (.bool false) (.slice none 0 0))
   obtain ⟨v3, hV⟩ := nmz (World.alloc v (.cells #[.bool false, .slice none 0 0] 33))
   obtain ⟨gy, hg⟩ := nmz (v.heap.size)
   rw [hV] at HB_3 HP_y_3  ⊢
   rw [hg] at HP_y_3  ⊢
   have HG_y := hJ (show W.heap.size ≤ gy by rw [← hg]; exact HX_j.out.size)
   have HN_x_y := hJ (show gx ≠ gy by have := HP_x_j.out.lt; rw [hg] at this; omega)
   have HX_3 := hJ (bt HX_j.out HB_3.out)
   have a_3 := hJ ((a_j.out).new HB_3.out)
   have b_3 := hJ ((b_j.out).new HB_3.out)
   have N0_3 := hJ (PIo.new N0_j.out HB_3.out)
   have N1_3 := hJ (PIo.new N1_j.out HB_3.out)
   have HP_x_3 := hJ (HP_x_j.out.new HB_3.out)
   clear hHeld
   refine hK.out _ _ (HS2.out _ HX_3.out) (fun hHeld => ?_)
   clear hK K hV hg HB_3 HX_j a_j b_j N0_j N1_j HP_x_j
   try simp only [PT]
   exact wpAnyH_cast (by kernel_rfl) (J1_3_4_5 s2a A2a n2a c2a s2b A2b n2b c2b gx gy v3 HX_3 a_3 b_3 N0_3 N1_3 HP_x_3 (hJ (HG_x_j.out)) HP_y_3 (hJ (HG_y.out)) (hJ (HN_x_y.out)))
  have J1_3_5 : ∀ (s2a : Bool) (A2a : Option Addr) (n2a : Nat) (c2a : Nat) (s2b : Bool) (A2b : Option Addr) (n2b : Nat) (c2b : Nat) (gy : Nat) (v : World), Hid (Below W.heap.size W v) → Hid (PF v sa Aa na ca sb Ab nb cb p q) → Hid (PF v sd Ad nd cd se Ae ne ce r s) → Hid (PI v s2a A2a n2a c2a (q)) → Hid (PI v s2b A2b n2b c2b (s)) → Hid (P2 33 v gy (.bool false) (.slice none 0 0)) → Hid (W.heap.size ≤ gy) → F 3 (Array.setIfInBounds (Array.setIfInBounds (Array.setIfInBounds L0 1 true) 3 true) 5 true) (Act.put (Act.put (Act.put a0 (some 16) (.agg #[.bool s2a, .slice A2a n2a c2a])) (some 18) (.agg #[.bool s2b, .slice A2b n2b c2b])) (some 7) (.pointer (some ⟨gy, 0, none⟩))) v := by
   intro s2a A2a n2a c2a s2b A2b n2b c2b gy v HX_j a_j b_j N0_j N1_j HP_y_j HG_y_j
   subst hF ha0 hL0
   simp only [PT] at J1_3_4_5 ⊢
   have hHeld := HS2.out _ HX_j.out
   refine wpAnyH_ready (rs := [4]) (by kernel_rfl) (by simp) ?_
   refine .cons rfl (fun K hK => ?_) .nil
   go_simp
   have HB_4 := hJ ((Below.refl v.heap.size v).alloc (Nat.le_refl _) (.cells #[.bool false, .slice none 0 0] 33))
   have HP_x_4 := hJ (P2.lit v 33 (.bool false) (.slice none 0 0))
   obtain ⟨v4, hV⟩ := nmz (World.alloc v (.cells #[.bool false, .slice none 0 0] 33))
   obtain ⟨gx, hg⟩ := nmz (v.heap.size)
   rw [hV] at HB_4 HP_x_4  ⊢
   rw [hg] at HP_x_4  ⊢
   have HG_x := hJ (show W.heap.size ≤ gx by rw [← hg]; exact HX_j.out.size)
   have HN_y_x := hJ (show gy ≠ gx by have := HP_y_j.out.lt; rw [hg] at this; omega)
   have HX_4 := hJ (bt HX_j.out HB_4.out)
   have a_4 := hJ ((a_j.out).new HB_4.out)
   have b_4 := hJ ((b_j.out).new HB_4.out)
   have N0_4 := hJ (PIo.new N0_j.out HB_4.out)
   have N1_4 := hJ (PIo.new N1_j.out HB_4.out)
   have HP_y_4 := hJ (HP_y_j.out.new HB_4.out)
   clear hHeld
   refine hK.out _ _ (HS2.out _ HX_4.out) (fun hHeld => ?_)
   clear hK K hV hg HB_4 HX_j a_j b_j N0_j N1_j HP_y_j
   try simp only [PT]
   exact wpAnyH_cast (by kernel_rfl) (J1_3_4_5 s2a A2a n2a c2a s2b A2b n2b c2b gx gy v4 HX_4 a_4 b_4 N0_4 N1_4 HP_x_4 (hJ (HG_x.out)) HP_y_4 (hJ (HG_y_j.out)) (hJ (HN_y_x.out.symm)))
  have J1_4_5 : ∀ (s2a : Bool) (A2a : Option Addr) (n2a : Nat) (c2a : Nat) (gx : Nat) (gy : Nat) (v : World), Hid (Below W.heap.size W v) → Hid (PF v sa Aa na ca sb Ab nb cb p q) → Hid (PF v sd Ad nd cd se Ae ne ce r s) → Hid (PI v s2a A2a n2a c2a (q)) → Hid (P2 33 v gx (.bool false) (.slice none 0 0)) → Hid (W.heap.size ≤ gx) → Hid (P2 33 v gy (.bool false) (.slice none 0 0)) → Hid (W.heap.size ≤ gy) → Hid (gx ≠ gy) → F 3 (Array.setIfInBounds (Array.setIfInBounds (Array.setIfInBounds L0 1 true) 4 true) 5 true) (Act.put (Act.put (Act.put a0 (some 16) (.agg #[.bool s2a, .slice A2a n2a c2a])) (some 6) (.pointer (some ⟨gx, 0, none⟩))) (some 7) (.pointer (some ⟨gy, 0, none⟩))) v := by
   intro s2a A2a n2a c2a gx gy v HX_j a_j b_j N0_j HP_x_j HG_x_j HP_y_j HG_y_j HN_x_y_j
   subst hF ha0 hL0
   simp only [PT] at J1_3_4_5 ⊢
   have hHeld := HS2.out _ HX_j.out
   refine wpAnyH_ready (rs := [3]) (by kernel_rfl) (by simp) ?_
   refine .cons rfl (fun K hK => ?_) .nil
   go_simp
   go_at_call_of 51 (#[Value.agg #[.bool sd, .slice Ad nd cd, .bool se, .slice Ae ne ce]])
   refine (den_any r s sd se Ad Ae nd cd ne ce v (b_j.out) (by omega) HL0.out.2.1).mono ?_
   rintro e v5 ⟨s2b, A2b, n2b, c2b, rfl, hr, hk⟩
   have N1_5 := hJ (hr)
   have HB_5 := hJ hk
   go_wp2_with fail
   have HX_5 := hJ (bt HX_j.out HB_5.out)
   have a_5 := hJ ((a_j.out).new HB_5.out)
   have b_5 := hJ ((b_j.out).new HB_5.out)
   have N0_5 := hJ (PIo.new N0_j.out HB_5.out)
   have HP_x_5 := hJ (HP_x_j.out.new HB_5.out)
   have HP_y_5 := hJ (HP_y_j.out.new HB_5.out)
   clear hHeld
   refine hK.out _ _ (HS2.out _ HX_5.out) (fun hHeld => ?_)
   clear hK K hk HB_5 hr HX_j a_j b_j N0_j HP_x_j HP_y_j
   try simp only [PT]
   exact wpAnyH_cast (by kernel_rfl) (J1_3_4_5 s2a A2a n2a c2a s2b A2b n2b c2b gx gy v5 HX_5 a_5 b_5 N0_5 N1_5 HP_x_5 (hJ (HG_x_j.out)) HP_y_5 (hJ (HG_y_j.out)) (hJ (HN_x_y_j.out)))
  have J1_3 : ∀ (s2a : Bool) (A2a : Option Addr) (n2a : Nat) (c2a : Nat) (s2b : Bool) (A2b : Option Addr) (n2b : Nat) (c2b : Nat) (v : World), Hid (Below W.heap.size W v) → Hid (PF v sa Aa na ca sb Ab nb cb p q) → Hid (PF v sd Ad nd cd se Ae ne ce r s) → Hid (PI v s2a A2a n2a c2a (q)) → Hid (PI v s2b A2b n2b c2b (s)) → F 4 (Array.setIfInBounds (Array.setIfInBounds L0 1 true) 3 true) (Act.put (Act.put a0 (some 16) (.agg #[.bool s2a, .slice A2a n2a c2a])) (some 18) (.agg #[.bool s2b, .slice A2b n2b c2b])) v := by
   intro s2a A2a n2a c2a s2b A2b n2b c2b v HX_j a_j b_j N0_j N1_j
   subst hF ha0 hL0
   simp only [PT] at J1_3_4 J1_3_5 ⊢
   have hHeld := HS2.out _ HX_j.out
   refine wpAnyH_ready (rs := [4, 5]) (by kernel_rfl) (by simp) ?_
   refine .cons rfl (fun K hK => ?_) ?_
   go_simp
   have HB_6 := hJ ((Below.refl v.heap.size v).alloc (Nat.le_refl _) (.cells #[.bool false, .slice none 0 0] 33))
   have HP_x_6 := hJ (P2.lit v 33 (.bool false) (.slice none 0 0))
   obtain ⟨v6, hV⟩ := nmz (World.alloc v (.cells #[.bool false, .slice none 0 0] 33))
   obtain ⟨gx, hg⟩ := nmz (v.heap.size)
   rw [hV] at HB_6 HP_x_6  ⊢
   rw [hg] at HP_x_6  ⊢
   have HG_x := hJ (show W.heap.size ≤ gx by rw [← hg]; exact HX_j.out.size)
   have HX_6 := hJ (bt HX_j.out HB_6.out)
   have a_6 := hJ ((a_j.out).new HB_6.out)
   have b_6 := hJ ((b_j.out).new HB_6.out)
   have N0_6 := hJ (PIo.new N0_j.out HB_6.out)
   have N1_6 := hJ (PIo.new N1_j.out HB_6.out)
   clear hHeld
   refine hK.out _ _ (HS2.out _ HX_6.out) (fun hHeld => ?_)
   clear hK K hV hg HB_6 HX_j a_j b_j N0_j N1_j
   try simp only [PT]
   exact wpAnyH_cast (by kernel_rfl) (J1_3_4 s2a A2a n2a c2a s2b A2b n2b c2b gx v6 HX_6 a_6 b_6 N0_6 N1_6 HP_x_6 (hJ (HG_x.out)))
   refine .cons rfl (fun K hK => ?_) .nil
   go_simp
   have HB_7 := hJ ((Below.refl v.heap.size v).alloc (Nat.le_refl _) (.cells #[.bool false, .slice none 0 0] 33))
   have HP_y_7 := hJ (P2.lit v 33 (.bool false) (.slice none 0 0))
   obtain ⟨v7, hV⟩ := nmz (World.alloc v (.cells #[.bool false, .slice none 0 0] 33))
   obtain ⟨gy, hg⟩ := nmz (v.heap.size)
   rw [hV] at HB_7 HP_y_7  ⊢
   rw [hg] at HP_y_7  ⊢
   have HG_y := hJ (show W.heap.size ≤ gy by rw [← hg]; exact HX_j.out.size)
   have HX_7 := hJ (bt HX_j.out HB_7.out)
   have a_7 := hJ ((a_j.out).new HB_7.out)
   have b_7 := hJ ((b_j.out).new HB_7.out)
   have N0_7 := hJ (PIo.new N0_j.out HB_7.out)
   have N1_7 := hJ (PIo.new N1_j.out HB_7.out)
   clear hHeld
   refine hK.out _ _ (HS2.out _ HX_7.out) (fun hHeld => ?_)
   clear hK K hV hg HB_7 HX_j a_j b_j N0_j N1_j
   try simp only [PT]
   exact wpAnyH_cast (by kernel_rfl) (J1_3_5 s2a A2a n2a c2a s2b A2b n2b c2b gy v7 HX_7 a_7 b_7 N0_7 N1_7 HP_y_7 (hJ (HG_y.out)))
  have J1_4 : ∀ (s2a : Bool) (A2a : Option Addr) (n2a : Nat) (c2a : Nat) (gx : Nat) (v : World), Hid (Below W.heap.size W v) → Hid (PF v sa Aa na ca sb Ab nb cb p q) → Hid (PF v sd Ad nd cd se Ae ne ce r s) → Hid (PI v s2a A2a n2a c2a (q)) → Hid (P2 33 v gx (.bool false) (.slice none 0 0)) → Hid (W.heap.size ≤ gx) → F 4 (Array.setIfInBounds (Array.setIfInBounds L0 1 true) 4 true) (Act.put (Act.put a0 (some 16) (.agg #[.bool s2a, .slice A2a n2a c2a])) (some 6) (.pointer (some ⟨gx, 0, none⟩))) v := by
   intro s2a A2a n2a c2a gx v HX_j a_j b_j N0_j HP_x_j HG_x_j
   subst hF ha0 hL0
   simp only [PT] at J1_3_4 J1_4_5 ⊢
   have hHeld := HS2.out _ HX_j.out
   refine wpAnyH_ready (rs := [3, 5]) (by kernel_rfl) (by simp) ?_
   refine .cons rfl (fun K hK => ?_) ?_
   go_simp
   go_at_call_of 51 (#[Value.agg #[.bool sd, .slice Ad nd cd, .bool se, .slice Ae ne ce]])
   refine (den_any r s sd se Ad Ae nd cd ne ce v (b_j.out) (by omega) HL0.out.2.1).mono ?_
   rintro e v8 ⟨s2b, A2b, n2b, c2b, rfl, hr, hk⟩
   have N1_8 := hJ (hr)
   have HB_8 := hJ hk
   go_wp2_with fail
   have HX_8 := hJ (bt HX_j.out HB_8.out)
   have a_8 := hJ ((a_j.out).new HB_8.out)
   have b_8 := hJ ((b_j.out).new HB_8.out)
   have N0_8 := hJ (PIo.new N0_j.out HB_8.out)
   have HP_x_8 := hJ (HP_x_j.out.new HB_8.out)
   clear hHeld
   refine hK.out _ _ (HS2.out _ HX_8.out) (fun hHeld => ?_)
   clear hK K hk HB_8 hr HX_j a_j b_j N0_j HP_x_j
   try simp only [PT]
   exact wpAnyH_cast (by kernel_rfl) (J1_3_4 s2a A2a n2a c2a s2b A2b n2b c2b gx v8 HX_8 a_8 b_8 N0_8 N1_8 HP_x_8 (hJ (HG_x_j.out)))
   refine .cons rfl (fun K hK => ?_) .nil
   go_simp
   have HB_9 := hJ ((Below.refl v.heap.size v).alloc (Nat.le_refl _) (.cells #[.bool false, .slice none 0 0] 33))
   have HP_y_9 := hJ (P2.lit v 33 (.bool false) (.slice none 0 0))
   obtain ⟨v9, hV⟩ := nmz (World.alloc v (.cells #[.bool false, .slice none 0 0] 33))
   obtain ⟨gy, hg⟩ := nmz (v.heap.size)
   rw [hV] at HB_9 HP_y_9  ⊢
   rw [hg] at HP_y_9  ⊢
   have HG_y := hJ (show W.heap.size ≤ gy by rw [← hg]; exact HX_j.out.size)
   have HN_x_y := hJ (show gx ≠ gy by have := HP_x_j.out.lt; rw [hg] at this; omega)
   have HX_9 := hJ (bt HX_j.out HB_9.out)
   have a_9 := hJ ((a_j.out).new HB_9.out)
   have b_9 := hJ ((b_j.out).new HB_9.out)
   have N0_9 := hJ (PIo.new N0_j.out HB_9.out)
   have HP_x_9 := hJ (HP_x_j.out.new HB_9.out)
   clear hHeld
   refine hK.out _ _ (HS2.out _ HX_9.out) (fun hHeld => ?_)
   clear hK K hV hg HB_9 HX_j a_j b_j N0_j HP_x_j
   try simp only [PT]
   exact wpAnyH_cast (by kernel_rfl) (J1_4_5 s2a A2a n2a c2a gx gy v9 HX_9 a_9 b_9 N0_9 HP_x_9 (hJ (HG_x_j.out)) HP_y_9 (hJ (HG_y.out)) (hJ (HN_x_y.out)))
  have J1_5 : ∀ (s2a : Bool) (A2a : Option Addr) (n2a : Nat) (c2a : Nat) (gy : Nat) (v : World), Hid (Below W.heap.size W v) → Hid (PF v sa Aa na ca sb Ab nb cb p q) → Hid (PF v sd Ad nd cd se Ae ne ce r s) → Hid (PI v s2a A2a n2a c2a (q)) → Hid (P2 33 v gy (.bool false) (.slice none 0 0)) → Hid (W.heap.size ≤ gy) → F 4 (Array.setIfInBounds (Array.setIfInBounds L0 1 true) 5 true) (Act.put (Act.put a0 (some 16) (.agg #[.bool s2a, .slice A2a n2a c2a])) (some 7) (.pointer (some ⟨gy, 0, none⟩))) v := by
   intro s2a A2a n2a c2a gy v HX_j a_j b_j N0_j HP_y_j HG_y_j
   subst hF ha0 hL0
   simp only [PT] at J1_3_5 J1_4_5 ⊢
   have hHeld := HS2.out _ HX_j.out
   refine wpAnyH_ready (rs := [3, 4]) (by kernel_rfl) (by simp) ?_
   refine .cons rfl (fun K hK => ?_) ?_
   go_simp
   go_at_call_of 51 (#[Value.agg #[.bool sd, .slice Ad nd cd, .bool se, .slice Ae ne ce]])
   refine (den_any r s sd se Ad Ae nd cd ne ce v (b_j.out) (by omega) HL0.out.2.1).mono ?_
   rintro e v10 ⟨s2b, A2b, n2b, c2b, rfl, hr, hk⟩
   have N1_10 := hJ (hr)
   have HB_10 := hJ hk
   go_wp2_with fail
   have HX_10 := hJ (bt HX_j.out HB_10.out)
   have a_10 := hJ ((a_j.out).new HB_10.out)
   have b_10 := hJ ((b_j.out).new HB_10.out)
   have N0_10 := hJ (PIo.new N0_j.out HB_10.out)
   have HP_y_10 := hJ (HP_y_j.out.new HB_10.out)
   clear hHeld
   refine hK.out _ _ (HS2.out _ HX_10.out) (fun hHeld => ?_)
   clear hK K hk HB_10 hr HX_j a_j b_j N0_j HP_y_j
   try simp only [PT]
   exact wpAnyH_cast (by kernel_rfl) (J1_3_5 s2a A2a n2a c2a s2b A2b n2b c2b gy v10 HX_10 a_10 b_10 N0_10 N1_10 HP_y_10 (hJ (HG_y_j.out)))
   refine .cons rfl (fun K hK => ?_) .nil
   go_simp
   have HB_11 := hJ ((Below.refl v.heap.size v).alloc (Nat.le_refl _) (.cells #[.bool false, .slice none 0 0] 33))
   have HP_x_11 := hJ (P2.lit v 33 (.bool false) (.slice none 0 0))
   obtain ⟨v11, hV⟩ := nmz (World.alloc v (.cells #[.bool false, .slice none 0 0] 33))
   obtain ⟨gx, hg⟩ := nmz (v.heap.size)
   rw [hV] at HB_11 HP_x_11  ⊢
   rw [hg] at HP_x_11  ⊢
   have HG_x := hJ (show W.heap.size ≤ gx by rw [← hg]; exact HX_j.out.size)
   have HN_y_x := hJ (show gy ≠ gx by have := HP_y_j.out.lt; rw [hg] at this; omega)
   have HX_11 := hJ (bt HX_j.out HB_11.out)
   have a_11 := hJ ((a_j.out).new HB_11.out)
   have b_11 := hJ ((b_j.out).new HB_11.out)
   have N0_11 := hJ (PIo.new N0_j.out HB_11.out)
   have HP_y_11 := hJ (HP_y_j.out.new HB_11.out)
   clear hHeld
   refine hK.out _ _ (HS2.out _ HX_11.out) (fun hHeld => ?_)
   clear hK K hV hg HB_11 HX_j a_j b_j N0_j HP_y_j
   try simp only [PT]
   exact wpAnyH_cast (by kernel_rfl) (J1_4_5 s2a A2a n2a c2a gx gy v11 HX_11 a_11 b_11 N0_11 HP_x_11 (hJ (HG_x.out)) HP_y_11 (hJ (HG_y_j.out)) (hJ (HN_y_x.out.symm)))
  have J4_5 : ∀ (gx : Nat) (gy : Nat) (v : World), Hid (Below W.heap.size W v) → Hid (PF v sa Aa na ca sb Ab nb cb p q) → Hid (PF v sd Ad nd cd se Ae ne ce r s) → Hid (P2 33 v gx (.bool false) (.slice none 0 0)) → Hid (W.heap.size ≤ gx) → Hid (P2 33 v gy (.bool false) (.slice none 0 0)) → Hid (W.heap.size ≤ gy) → Hid (gx ≠ gy) → F 4 (Array.setIfInBounds (Array.setIfInBounds L0 4 true) 5 true) (Act.put (Act.put a0 (some 6) (.pointer (some ⟨gx, 0, none⟩))) (some 7) (.pointer (some ⟨gy, 0, none⟩))) v := by
   intro gx gy v HX_j a_j b_j HP_x_j HG_x_j HP_y_j HG_y_j HN_x_y_j
   subst hF ha0 hL0
   simp only [PT] at J1_4_5 ⊢
   have hHeld := HS2.out _ HX_j.out
   refine wpAnyH_ready (rs := [1]) (by kernel_rfl) (by simp) ?_
   refine .cons rfl (fun K hK => ?_) .nil
   go_simp
   go_at_call_of 51 (#[Value.agg #[.bool sa, .slice Aa na ca, .bool sb, .slice Ab nb cb]])
   refine (den_any p q sa sb Aa Ab na ca nb cb v (a_j.out) (by omega) HL0.out.1).mono ?_
   rintro e v12 ⟨s2a, A2a, n2a, c2a, rfl, hr, hk⟩
   have N0_12 := hJ (hr)
   have HB_12 := hJ hk
   go_wp2_with fail
   have HX_12 := hJ (bt HX_j.out HB_12.out)
   have a_12 := hJ ((a_j.out).new HB_12.out)
   have b_12 := hJ ((b_j.out).new HB_12.out)
   have HP_x_12 := hJ (HP_x_j.out.new HB_12.out)
   have HP_y_12 := hJ (HP_y_j.out.new HB_12.out)
   clear hHeld
   refine hK.out _ _ (HS2.out _ HX_12.out) (fun hHeld => ?_)
   clear hK K hk HB_12 hr HX_j a_j b_j HP_x_j HP_y_j
   try simp only [PT]
   exact wpAnyH_cast (by kernel_rfl) (J1_4_5 s2a A2a n2a c2a gx gy v12 HX_12 a_12 b_12 N0_12 HP_x_12 (hJ (HG_x_j.out)) HP_y_12 (hJ (HG_y_j.out)) (hJ (HN_x_y_j.out)))
  have J1 : ∀ (s2a : Bool) (A2a : Option Addr) (n2a : Nat) (c2a : Nat) (v : World), Hid (Below W.heap.size W v) → Hid (PF v sa Aa na ca sb Ab nb cb p q) → Hid (PF v sd Ad nd cd se Ae ne ce r s) → Hid (PI v s2a A2a n2a c2a (q)) → F 5 (Array.setIfInBounds L0 1 true) (Act.put a0 (some 16) (.agg #[.bool s2a, .slice A2a n2a c2a])) v := by
   intro s2a A2a n2a c2a v HX_j a_j b_j N0_j
   subst hF ha0 hL0
   simp only [PT] at J1_3 J1_4 J1_5 ⊢
   have hHeld := HS2.out _ HX_j.out
   refine wpAnyH_ready (rs := [3, 4, 5]) (by kernel_rfl) (by simp) ?_
   refine .cons rfl (fun K hK => ?_) ?_
   go_simp
   go_at_call_of 51 (#[Value.agg #[.bool sd, .slice Ad nd cd, .bool se, .slice Ae ne ce]])
   refine (den_any r s sd se Ad Ae nd cd ne ce v (b_j.out) (by omega) HL0.out.2.1).mono ?_
   rintro e v13 ⟨s2b, A2b, n2b, c2b, rfl, hr, hk⟩
   have N1_13 := hJ (hr)
   have HB_13 := hJ hk
   go_wp2_with fail
   have HX_13 := hJ (bt HX_j.out HB_13.out)
   have a_13 := hJ ((a_j.out).new HB_13.out)
   have b_13 := hJ ((b_j.out).new HB_13.out)
   have N0_13 := hJ (PIo.new N0_j.out HB_13.out)
   clear hHeld
   refine hK.out _ _ (HS2.out _ HX_13.out) (fun hHeld => ?_)
   clear hK K hk HB_13 hr HX_j a_j b_j N0_j
   try simp only [PT]
   exact wpAnyH_cast (by kernel_rfl) (J1_3 s2a A2a n2a c2a s2b A2b n2b c2b v13 HX_13 a_13 b_13 N0_13 N1_13)
   refine .cons rfl (fun K hK => ?_) ?_
   go_simp
   have HB_14 := hJ ((Below.refl v.heap.size v).alloc (Nat.le_refl _) (.cells #[.bool false, .slice none 0 0] 33))
   have HP_x_14 := hJ (P2.lit v 33 (.bool false) (.slice none 0 0))
   obtain ⟨v14, hV⟩ := nmz (World.alloc v (.cells #[.bool false, .slice none 0 0] 33))
   obtain ⟨gx, hg⟩ := nmz (v.heap.size)
   rw [hV] at HB_14 HP_x_14  ⊢
   rw [hg] at HP_x_14  ⊢
   have HG_x := hJ (show W.heap.size ≤ gx by rw [← hg]; exact HX_j.out.size)
   have HX_14 := hJ (bt HX_j.out HB_14.out)
   have a_14 := hJ ((a_j.out).new HB_14.out)
   have b_14 := hJ ((b_j.out).new HB_14.out)
   have N0_14 := hJ (PIo.new N0_j.out HB_14.out)
   clear hHeld
   refine hK.out _ _ (HS2.out _ HX_14.out) (fun hHeld => ?_)
   clear hK K hV hg HB_14 HX_j a_j b_j N0_j
   try simp only [PT]
   exact wpAnyH_cast (by kernel_rfl) (J1_4 s2a A2a n2a c2a gx v14 HX_14 a_14 b_14 N0_14 HP_x_14 (hJ (HG_x.out)))
   refine .cons rfl (fun K hK => ?_) .nil
   go_simp
   have HB_15 := hJ ((Below.refl v.heap.size v).alloc (Nat.le_refl _) (.cells #[.bool false, .slice none 0 0] 33))
   have HP_y_15 := hJ (P2.lit v 33 (.bool false) (.slice none 0 0))
   obtain ⟨v15, hV⟩ := nmz (World.alloc v (.cells #[.bool false, .slice none 0 0] 33))
   obtain ⟨gy, hg⟩ := nmz (v.heap.size)
   rw [hV] at HB_15 HP_y_15  ⊢
   rw [hg] at HP_y_15  ⊢
   have HG_y := hJ (show W.heap.size ≤ gy by rw [← hg]; exact HX_j.out.size)
   have HX_15 := hJ (bt HX_j.out HB_15.out)
   have a_15 := hJ ((a_j.out).new HB_15.out)
   have b_15 := hJ ((b_j.out).new HB_15.out)
   have N0_15 := hJ (PIo.new N0_j.out HB_15.out)
   clear hHeld
   refine hK.out _ _ (HS2.out _ HX_15.out) (fun hHeld => ?_)
   clear hK K hV hg HB_15 HX_j a_j b_j N0_j
   try simp only [PT]
   exact wpAnyH_cast (by kernel_rfl) (J1_5 s2a A2a n2a c2a gy v15 HX_15 a_15 b_15 N0_15 HP_y_15 (hJ (HG_y.out)))
  have J4 : ∀ (gx : Nat) (v : World), Hid (Below W.heap.size W v) → Hid (PF v sa Aa na ca sb Ab nb cb p q) → Hid (PF v sd Ad nd cd se Ae ne ce r s) → Hid (P2 33 v gx (.bool false) (.slice none 0 0)) → Hid (W.heap.size ≤ gx) → F 5 (Array.setIfInBounds L0 4 true) (Act.put a0 (some 6) (.pointer (some ⟨gx, 0, none⟩))) v := by
   intro gx v HX_j a_j b_j HP_x_j HG_x_j
   subst hF ha0 hL0
   simp only [PT] at J1_4 J4_5 ⊢
   have hHeld := HS2.out _ HX_j.out
   refine wpAnyH_ready (rs := [1, 5]) (by kernel_rfl) (by simp) ?_
   refine .cons rfl (fun K hK => ?_) ?_
   go_simp
   go_at_call_of 51 (#[Value.agg #[.bool sa, .slice Aa na ca, .bool sb, .slice Ab nb cb]])
   refine (den_any p q sa sb Aa Ab na ca nb cb v (a_j.out) (by omega) HL0.out.1).mono ?_
   rintro e v16 ⟨s2a, A2a, n2a, c2a, rfl, hr, hk⟩
   have N0_16 := hJ (hr)
   have HB_16 := hJ hk
   go_wp2_with fail
   have HX_16 := hJ (bt HX_j.out HB_16.out)
   have a_16 := hJ ((a_j.out).new HB_16.out)
   have b_16 := hJ ((b_j.out).new HB_16.out)
   have HP_x_16 := hJ (HP_x_j.out.new HB_16.out)
   clear hHeld
   refine hK.out _ _ (HS2.out _ HX_16.out) (fun hHeld => ?_)
   clear hK K hk HB_16 hr HX_j a_j b_j HP_x_j
   try simp only [PT]
   exact wpAnyH_cast (by kernel_rfl) (J1_4 s2a A2a n2a c2a gx v16 HX_16 a_16 b_16 N0_16 HP_x_16 (hJ (HG_x_j.out)))
   refine .cons rfl (fun K hK => ?_) .nil
   go_simp
   have HB_17 := hJ ((Below.refl v.heap.size v).alloc (Nat.le_refl _) (.cells #[.bool false, .slice none 0 0] 33))
   have HP_y_17 := hJ (P2.lit v 33 (.bool false) (.slice none 0 0))
   obtain ⟨v17, hV⟩ := nmz (World.alloc v (.cells #[.bool false, .slice none 0 0] 33))
   obtain ⟨gy, hg⟩ := nmz (v.heap.size)
   rw [hV] at HB_17 HP_y_17  ⊢
   rw [hg] at HP_y_17  ⊢
   have HG_y := hJ (show W.heap.size ≤ gy by rw [← hg]; exact HX_j.out.size)
   have HN_x_y := hJ (show gx ≠ gy by have := HP_x_j.out.lt; rw [hg] at this; omega)
   have HX_17 := hJ (bt HX_j.out HB_17.out)
   have a_17 := hJ ((a_j.out).new HB_17.out)
   have b_17 := hJ ((b_j.out).new HB_17.out)
   have HP_x_17 := hJ (HP_x_j.out.new HB_17.out)
   clear hHeld
   refine hK.out _ _ (HS2.out _ HX_17.out) (fun hHeld => ?_)
   clear hK K hV hg HB_17 HX_j a_j b_j HP_x_j
   try simp only [PT]
   exact wpAnyH_cast (by kernel_rfl) (J4_5 gx gy v17 HX_17 a_17 b_17 HP_x_17 (hJ (HG_x_j.out)) HP_y_17 (hJ (HG_y.out)) (hJ (HN_x_y.out)))
  have J5 : ∀ (gy : Nat) (v : World), Hid (Below W.heap.size W v) → Hid (PF v sa Aa na ca sb Ab nb cb p q) → Hid (PF v sd Ad nd cd se Ae ne ce r s) → Hid (P2 33 v gy (.bool false) (.slice none 0 0)) → Hid (W.heap.size ≤ gy) → F 5 (Array.setIfInBounds L0 5 true) (Act.put a0 (some 7) (.pointer (some ⟨gy, 0, none⟩))) v := by
   intro gy v HX_j a_j b_j HP_y_j HG_y_j
   subst hF ha0 hL0
   simp only [PT] at J1_5 J4_5 ⊢
   have hHeld := HS2.out _ HX_j.out
   refine wpAnyH_ready (rs := [1, 4]) (by kernel_rfl) (by simp) ?_
   refine .cons rfl (fun K hK => ?_) ?_
   go_simp
   go_at_call_of 51 (#[Value.agg #[.bool sa, .slice Aa na ca, .bool sb, .slice Ab nb cb]])
   refine (den_any p q sa sb Aa Ab na ca nb cb v (a_j.out) (by omega) HL0.out.1).mono ?_
   rintro e v18 ⟨s2a, A2a, n2a, c2a, rfl, hr, hk⟩
   have N0_18 := hJ (hr)
   have HB_18 := hJ hk
   go_wp2_with fail
   have HX_18 := hJ (bt HX_j.out HB_18.out)
   have a_18 := hJ ((a_j.out).new HB_18.out)
   have b_18 := hJ ((b_j.out).new HB_18.out)
   have HP_y_18 := hJ (HP_y_j.out.new HB_18.out)
   clear hHeld
   refine hK.out _ _ (HS2.out _ HX_18.out) (fun hHeld => ?_)
   clear hK K hk HB_18 hr HX_j a_j b_j HP_y_j
   try simp only [PT]
   exact wpAnyH_cast (by kernel_rfl) (J1_5 s2a A2a n2a c2a gy v18 HX_18 a_18 b_18 N0_18 HP_y_18 (hJ (HG_y_j.out)))
   refine .cons rfl (fun K hK => ?_) .nil
   go_simp
   have HB_19 := hJ ((Below.refl v.heap.size v).alloc (Nat.le_refl _) (.cells #[.bool false, .slice none 0 0] 33))
   have HP_x_19 := hJ (P2.lit v 33 (.bool false) (.slice none 0 0))
   obtain ⟨v19, hV⟩ := nmz (World.alloc v (.cells #[.bool false, .slice none 0 0] 33))
   obtain ⟨gx, hg⟩ := nmz (v.heap.size)
   rw [hV] at HB_19 HP_x_19  ⊢
   rw [hg] at HP_x_19  ⊢
   have HG_x := hJ (show W.heap.size ≤ gx by rw [← hg]; exact HX_j.out.size)
   have HN_y_x := hJ (show gy ≠ gx by have := HP_y_j.out.lt; rw [hg] at this; omega)
   have HX_19 := hJ (bt HX_j.out HB_19.out)
   have a_19 := hJ ((a_j.out).new HB_19.out)
   have b_19 := hJ ((b_j.out).new HB_19.out)
   have HP_y_19 := hJ (HP_y_j.out.new HB_19.out)
   clear hHeld
   refine hK.out _ _ (HS2.out _ HX_19.out) (fun hHeld => ?_)
   clear hK K hV hg HB_19 HX_j a_j b_j HP_y_j
   try simp only [PT]
   exact wpAnyH_cast (by kernel_rfl) (J4_5 gx gy v19 HX_19 a_19 b_19 HP_x_19 (hJ (HG_x.out)) HP_y_19 (hJ (HG_y_j.out)) (hJ (HN_y_x.out.symm)))
  subst hF ha0 hL0
  simp only [PT] at J1 J4 J5
  refine wpAnyH_ready (rs := [1, 4, 5]) (by kernel_rfl) (by simp) ?_
  refine .cons rfl (fun K hK => ?_) ?_
  go_simp
  go_at_call_of 51 (#[Value.agg #[.bool sa, .slice Aa na ca, .bool sb, .slice Ab nb cb]])
  refine (den_any p q sa sb Aa Ab na ca nb cb v0 (a_0.out) (by omega) HL0.out.1).mono ?_
  rintro e v20 ⟨s2a, A2a, n2a, c2a, rfl, hr, hk⟩
  have N0_20 := hJ (hr)
  have HB_20 := hJ hk
  go_wp2_with fail
  have HX_20 := hJ (bt HD0.out HB_20.out)
  have a_20 := hJ ((a_0.out).new HB_20.out)
  have b_20 := hJ ((b_0.out).new HB_20.out)
  clear hHeld
  refine hK.out _ _ (HS2.out _ HX_20.out) (fun hHeld => ?_)
  clear hK K hk HB_20 hr HD0 a_0 b_0
  try simp only [PT]
  exact wpAnyH_cast (by kernel_rfl) (J1 s2a A2a n2a c2a v20 HX_20 a_20 b_20 N0_20)
  refine .cons rfl (fun K hK => ?_) ?_
  go_simp
  have HB_21 := hJ ((Below.refl v0.heap.size v0).alloc (Nat.le_refl _) (.cells #[.bool false, .slice none 0 0] 33))
  have HP_x_21 := hJ (P2.lit v0 33 (.bool false) (.slice none 0 0))
  obtain ⟨v21, hV⟩ := nmz (World.alloc v0 (.cells #[.bool false, .slice none 0 0] 33))
  obtain ⟨gx, hg⟩ := nmz (v0.heap.size)
  rw [hV] at HB_21 HP_x_21  ⊢
  rw [hg] at HP_x_21  ⊢
  have HG_x := hJ (show W.heap.size ≤ gx by rw [← hg]; exact HD0.out.size)
  have HX_21 := hJ (bt HD0.out HB_21.out)
  have a_21 := hJ ((a_0.out).new HB_21.out)
  have b_21 := hJ ((b_0.out).new HB_21.out)
  clear hHeld
  refine hK.out _ _ (HS2.out _ HX_21.out) (fun hHeld => ?_)
  clear hK K hV hg HB_21 HD0 a_0 b_0
  try simp only [PT]
  exact wpAnyH_cast (by kernel_rfl) (J4 gx v21 HX_21 a_21 b_21 HP_x_21 (hJ (HG_x.out)))
  refine .cons rfl (fun K hK => ?_) .nil
  go_simp
  have HB_22 := hJ ((Below.refl v0.heap.size v0).alloc (Nat.le_refl _) (.cells #[.bool false, .slice none 0 0] 33))
  have HP_y_22 := hJ (P2.lit v0 33 (.bool false) (.slice none 0 0))
  obtain ⟨v22, hV⟩ := nmz (World.alloc v0 (.cells #[.bool false, .slice none 0 0] 33))
  obtain ⟨gy, hg⟩ := nmz (v0.heap.size)
  rw [hV] at HB_22 HP_y_22  ⊢
  rw [hg] at HP_y_22  ⊢
  have HG_y := hJ (show W.heap.size ≤ gy by rw [← hg]; exact HD0.out.size)
  have HX_22 := hJ (bt HD0.out HB_22.out)
  have a_22 := hJ ((a_0.out).new HB_22.out)
  have b_22 := hJ ((b_0.out).new HB_22.out)
  clear hHeld
  refine hK.out _ _ (HS2.out _ HX_22.out) (fun hHeld => ?_)
  clear hK K hV hg HB_22 HD0 a_0 b_0
  try simp only [PT]
  exact wpAnyH_cast (by kernel_rfl) (J5 gy v22 HX_22 a_22 b_22 HP_y_22 (hJ (HG_y.out)))
 case rest =>
  obtain ⟨G2, H2, s2a, A2a, n2a, c2a, s2b, A2b, n2b, c2b, rfl, rfl, hq1, hq2, hr1, hr2, hbx⟩ := hcut
  have HQ2a := hJ hq1
  have HQ2b := hJ hq2
  have HR2a := hJ hr1
  have HR2b := hJ hr2
  have HB2 := hJ hbx
  obtain ⟨x2, rfl⟩ := nm_world hbx
  clear hq1 hq2 hr1 hr2 hbx HS2 HXX2
  have hn2a : n2a ≤ 512 := plim HR2a.out HL0.out.2.2.2.1
  have hn2b : n2b ≤ 512 := plim HR2b.out HL0.out.2.2.2.2.2
  have HQa_2 := hJ (HPa.out.new HB2.out)
  have HRa_2 := hJ (HRa.out.new HB2.out)
  have HQd_2 := hJ (HPb.out.new HB2.out)
  have HRd_2 := hJ (HRb.out.new HB2.out)
  have HQz_2 := hJ (HPz.out.new HB2.out)
  have HRz_2 := hJ (HRz.out.new HB2.out)
  have HW_2 := hJ (bt HK.out HB2.out)
  clear HPa HRa HPb HRb HPz HRz HK HB2
  have HGF := hJ (mu_gcd (p := p) (r := r) HL0.out)
  have HS3 : Hid (∀ w', Below x2.heap.size x2 w' → (fun w' : World => w'.cell? ⟨h, 0, none⟩ = some (.bool sa) ∧ w'.cell? ⟨h, 1, none⟩ = some (.slice Aa na ca) ∧ w'.cell? ⟨h, 2, none⟩ = some (.bool sb) ∧ w'.cell? ⟨h, 3, none⟩ = some (.slice Ab nb cb) ∧ w'.cell? ⟨(h + 1), 0, none⟩ = some (.bool sd) ∧ w'.cell? ⟨(h + 1), 1, none⟩ = some (.slice Ad nd cd) ∧ w'.cell? ⟨(h + 1), 2, none⟩ = some (.bool se) ∧ w'.cell? ⟨(h + 1), 3, none⟩ = some (.slice Ae ne ce) ∧ w'.cell? ⟨G2, 0, none⟩ = some (.bool s2a) ∧ w'.cell? ⟨G2, 1, none⟩ = some (.slice A2a n2a c2a) ∧ w'.cell? ⟨H2, 0, none⟩ = some (.bool s2b) ∧ w'.cell? ⟨H2, 1, none⟩ = some (.slice A2b n2b c2b) ∧ Below x2.heap.size x2 w') w') := hJ (fun w' hb => ⟨(HQa_2.out.new hb).cells.1, (HQa_2.out.new hb).cells.2.1, (HQa_2.out.new hb).cells.2.2.1, (HQa_2.out.new hb).cells.2.2.2, (HQd_2.out.new hb).cells.1, (HQd_2.out.new hb).cells.2.1, (HQd_2.out.new hb).cells.2.2.1, (HQd_2.out.new hb).cells.2.2.2, (HQ2a.out.new hb).cells.1, (HQ2a.out.new hb).cells.2, (HQ2b.out.new hb).cells.1, (HQ2b.out.new hb).cells.2, hb⟩)
  have HXX3 := hJ (Below.refl x2.heap.size x2)
  go_upto_region 2 with fail
  go_cut [8, 9] (fun tp tq wx => ∃ (G H : Nat) (s3a : Bool) (A3a : Option Addr) (n3a c3a : Nat) (s3b : Bool) (A3b : Option Addr) (n3b c3b : Nat), tp = .pointer (some ⟨G, 0, none⟩) ∧ tq = .pointer (some ⟨H, 0, none⟩) ∧ P2 33 wx G (.bool s3a) (.slice A3a n3a c3a) ∧ P2 33 wx H (.bool s3b) (.slice A3b n3b c3b) ∧ PI wx s3a A3a n3a c3a (muA p s) ∧ PI wx s3b A3b n3b c3b (muA r q) ∧ Below x2.heap.size x2 wx)
  case first =>
   have HX_0 := HXX3
   obtain ⟨v0, hv0⟩ := nmz (World.drew x2)
   have HD0 := hJ (show Below x2.heap.size x2 v0 by rw [← hv0]; exact (Below.refl _ _).drew)
   have a_0 := hJ ((HRa_2.out).new HD0.out)
   have b_0 := hJ ((HRd_2.out).new HD0.out)
   have q_0 := hJ (PIo.new HR2a.out HD0.out)
   have s_0 := hJ (PIo.new HR2b.out HD0.out)
   refine wp_region_held_drew (S := (fun w' : World => w'.cell? ⟨h, 0, none⟩ = some (.bool sa) ∧ w'.cell? ⟨h, 1, none⟩ = some (.slice Aa na ca) ∧ w'.cell? ⟨h, 2, none⟩ = some (.bool sb) ∧ w'.cell? ⟨h, 3, none⟩ = some (.slice Ab nb cb) ∧ w'.cell? ⟨(h + 1), 0, none⟩ = some (.bool sd) ∧ w'.cell? ⟨(h + 1), 1, none⟩ = some (.slice Ad nd cd) ∧ w'.cell? ⟨(h + 1), 2, none⟩ = some (.bool se) ∧ w'.cell? ⟨(h + 1), 3, none⟩ = some (.slice Ae ne ce) ∧ w'.cell? ⟨G2, 0, none⟩ = some (.bool s2a) ∧ w'.cell? ⟨G2, 1, none⟩ = some (.slice A2a n2a c2a) ∧ w'.cell? ⟨H2, 0, none⟩ = some (.bool s2b) ∧ w'.cell? ⟨H2, 1, none⟩ = some (.slice A2b n2b c2b) ∧ Below x2.heap.size x2 w')) (by kernel_rfl) ?_ (fun hHeld => ?_)
   ·rw [hv0]
    exact HS3.out _ HD0.out
   rw [hv0] at hHeld ⊢
   clear hv0 HX_0
   refine tq 0 ?_
   try simp only [PT]
   refine tq 1 ?_
   try simp only [PT]
   refine tq 2 ?_
   try simp only [PT]
   refine tq 4 ?_
   try simp only [PT]
   refine tq 5 ?_
   try simp only [PT]
   refine tq 6 ?_
   try simp only [PT]
   refine wpAnyH_name (fun F hF a0 ha0 L0 hL0 => ?_)
   have J3_7_8_9 : ∀ (s3a : Bool) (A3a : Option Addr) (n3a : Nat) (c3a : Nat) (s3b : Bool) (A3b : Option Addr) (n3b : Nat) (c3b : Nat) (gx : Nat) (gy : Nat) (v : World), Hid (Below x2.heap.size x2 v) → Hid (PF v sa Aa na ca sb Ab nb cb p q) → Hid (PF v sd Ad nd cd se Ae ne ce r s) → Hid (PI v s2a A2a n2a c2a (q)) → Hid (PI v s2b A2b n2b c2b (s)) → Hid (PI v s3a A3a n3a c3a (muA p s)) → Hid (PI v s3b A3b n3b c3b (muA r q)) → Hid (P2 33 v gx (.bool false) (.slice none 0 0)) → Hid (x2.heap.size ≤ gx) → Hid (P2 33 v gy (.bool false) (.slice none 0 0)) → Hid (x2.heap.size ≤ gy) → Hid (gx ≠ gy) → F 2 (Array.setIfInBounds (Array.setIfInBounds (Array.setIfInBounds (Array.setIfInBounds L0 3 true) 7 true) 8 true) 9 true) (Act.put (Act.put (Act.put (Act.put a0 (some 22) (.agg #[.bool s3a, .slice A3a n3a c3a])) (some 26) (.agg #[.bool s3b, .slice A3b n3b c3b])) (some 8) (.pointer (some ⟨gx, 0, none⟩))) (some 9) (.pointer (some ⟨gy, 0, none⟩))) v := by
    intro s3a A3a n3a c3a s3b A3b n3b c3b gx gy v HX_j a_j b_j q_j s_j N0_j N1_j HP_x_j HG_x_j HP_y_j HG_y_j HN_x_y_j
    subst hF ha0 hL0
    simp only [PT] at  ⊢
    have hHeld := HS3.out _ HX_j.out
    refine wpAnyH_ready (rs := [10]) (by kernel_rfl) (by simp) ?_
    refine .cons rfl (fun K hK => ?_) .nil
    obtain ⟨z0, z1⟩ := HP_x_j.out.cells
    have y0 := HP_x_j.out.frozen 0
    have y1 := HP_x_j.out.frozen 1
    have z9 := HP_x_j.out.lt
    go_simp
    obtain ⟨v1, hV⟩ := nmz (World.setCell (World.setCell v ⟨gx, 0, none⟩ (.bool s3a)) ⟨gx, 1, none⟩ (.slice A3a n3a c3a))
    rw [hV]
    have HX_1 := hJ (show Below x2.heap.size x2 v1 by rw [← hV]; exact below_box HX_j.out (HG_x_j.out) _ _)
    have a_1 := hJ (show PF v1 sa Aa na ca sb Ab nb cb p q by rw [← hV]; exact PF.box (a_j.out) (HP_x_j.out) (.bool s3a) (.slice A3a n3a c3a))
    have b_1 := hJ (show PF v1 sd Ad nd cd se Ae ne ce r s by rw [← hV]; exact PF.box (b_j.out) (HP_x_j.out) (.bool s3a) (.slice A3a n3a c3a))
    have q_1 := hJ (show PI v1 s2a A2a n2a c2a (q) by rw [← hV]; exact PIo.box (q_j.out) (HP_x_j.out) rfl rfl (.bool s3a) (.slice A3a n3a c3a))
    have s_1 := hJ (show PI v1 s2b A2b n2b c2b (s) by rw [← hV]; exact PIo.box (s_j.out) (HP_x_j.out) rfl rfl (.bool s3a) (.slice A3a n3a c3a))
    have N0_1 := hJ (show PI v1 s3a A3a n3a c3a (muA p s) by rw [← hV]; exact PIo.box (N0_j.out) (HP_x_j.out) rfl rfl (.bool s3a) (.slice A3a n3a c3a))
    have N1_1 := hJ (show PI v1 s3b A3b n3b c3b (muA r q) by rw [← hV]; exact PIo.box (N1_j.out) (HP_x_j.out) rfl rfl (.bool s3a) (.slice A3a n3a c3a))
    have HP_y_1 := hJ (show P2 33 v1 gy (.bool false) (.slice none 0 0) by rw [← hV]; exact HP_y_j.out.far2 (show gy ≠ gx from HN_x_y_j.out.symm) (.bool s3a) (.slice A3a n3a c3a))
    have HP_x_1 := hJ (show P2 33 v1 gx (.bool s3a) (.slice A3a n3a c3a) by rw [← hV]; exact HP_x_j.out.all (.bool s3a) (.slice A3a n3a c3a))
    clear hHeld
    refine hK.out _ _ (HS3.out _ HX_1.out) (fun hHeld => ?_)
    clear hK K hV z9 z0 z1 y0 y1 HX_j a_j b_j q_j s_j N0_j N1_j HP_y_j HP_x_j
    try simp only [PT]
    refine wpAnyH_ready (rs := [11]) (by kernel_rfl) (by simp) ?_
    refine .cons rfl (fun K hK => ?_) .nil
    obtain ⟨z0, z1⟩ := HP_y_1.out.cells
    have y0 := HP_y_1.out.frozen 0
    have y1 := HP_y_1.out.frozen 1
    have z9 := HP_y_1.out.lt
    go_simp
    obtain ⟨v2, hV⟩ := nmz (World.setCell (World.setCell v1 ⟨gy, 0, none⟩ (.bool s3b)) ⟨gy, 1, none⟩ (.slice A3b n3b c3b))
    rw [hV]
    have HX_2 := hJ (show Below x2.heap.size x2 v2 by rw [← hV]; exact below_box HX_1.out (HG_y_j.out) _ _)
    have a_2 := hJ (show PF v2 sa Aa na ca sb Ab nb cb p q by rw [← hV]; exact PF.box (a_1.out) (HP_y_1.out) (.bool s3b) (.slice A3b n3b c3b))
    have b_2 := hJ (show PF v2 sd Ad nd cd se Ae ne ce r s by rw [← hV]; exact PF.box (b_1.out) (HP_y_1.out) (.bool s3b) (.slice A3b n3b c3b))
    have q_2 := hJ (show PI v2 s2a A2a n2a c2a (q) by rw [← hV]; exact PIo.box (q_1.out) (HP_y_1.out) rfl rfl (.bool s3b) (.slice A3b n3b c3b))
    have s_2 := hJ (show PI v2 s2b A2b n2b c2b (s) by rw [← hV]; exact PIo.box (s_1.out) (HP_y_1.out) rfl rfl (.bool s3b) (.slice A3b n3b c3b))
    have N0_2 := hJ (show PI v2 s3a A3a n3a c3a (muA p s) by rw [← hV]; exact PIo.box (N0_1.out) (HP_y_1.out) rfl rfl (.bool s3b) (.slice A3b n3b c3b))
    have N1_2 := hJ (show PI v2 s3b A3b n3b c3b (muA r q) by rw [← hV]; exact PIo.box (N1_1.out) (HP_y_1.out) rfl rfl (.bool s3b) (.slice A3b n3b c3b))
    have HP_x_2 := hJ (show P2 33 v2 gx (.bool s3a) (.slice A3a n3a c3a) by rw [← hV]; exact HP_x_1.out.far2 (show gx ≠ gy from HN_x_y_j.out) (.bool s3b) (.slice A3b n3b c3b))
    have HP_y_2 := hJ (show P2 33 v2 gy (.bool s3b) (.slice A3b n3b c3b) by rw [← hV]; exact HP_y_1.out.all (.bool s3b) (.slice A3b n3b c3b))
    clear hHeld
    refine hK.out _ _ (HS3.out _ HX_2.out) (fun hHeld => ?_)
    clear hK K hV z9 z0 z1 y0 y1 HX_1 a_1 b_1 q_1 s_1 N0_1 N1_1 HP_x_1 HP_y_1
    try simp only [PT]
    refine wpAnyH_done (by kernel_rfl) ?_ _
    clear hHeld
    go_wp2_with fail
    go_meet
    exact ⟨gx, gy, s3a, A3a, n3a, c3a, s3b, A3b, n3b, c3b, rfl, rfl, HP_x_2.out, HP_y_2.out, N0_2.out, N1_2.out, HX_2.out⟩
   have J3_7_8 : ∀ (s3a : Bool) (A3a : Option Addr) (n3a : Nat) (c3a : Nat) (s3b : Bool) (A3b : Option Addr) (n3b : Nat) (c3b : Nat) (gx : Nat) (v : World), Hid (Below x2.heap.size x2 v) → Hid (PF v sa Aa na ca sb Ab nb cb p q) → Hid (PF v sd Ad nd cd se Ae ne ce r s) → Hid (PI v s2a A2a n2a c2a (q)) → Hid (PI v s2b A2b n2b c2b (s)) → Hid (PI v s3a A3a n3a c3a (muA p s)) → Hid (PI v s3b A3b n3b c3b (muA r q)) → Hid (P2 33 v gx (.bool false) (.slice none 0 0)) → Hid (x2.heap.size ≤ gx) → F 3 (Array.setIfInBounds (Array.setIfInBounds (Array.setIfInBounds L0 3 true) 7 true) 8 true) (Act.put (Act.put (Act.put a0 (some 22) (.agg #[.bool s3a, .slice A3a n3a c3a])) (some 26) (.agg #[.bool s3b, .slice A3b n3b c3b])) (some 8) (.pointer (some ⟨gx, 0, none⟩))) v := by
    intro s3a A3a n3a c3a s3b A3b n3b c3b gx v HX_j a_j b_j q_j s_j N0_j N1_j HP_x_j HG_x_j
    subst hF ha0 hL0
    simp only [PT] at J3_7_8_9 ⊢
    have hHeld := HS3.out _ HX_j.out
    refine wpAnyH_ready (rs := [9]) (by kernel_rfl) (by simp) ?_
    refine .cons rfl (fun K hK => ?_) .nil
    go_simp
    have HB_3 := hJ ((Below.refl v.heap.size v).alloc (Nat.le_refl _) (.cells #[.bool false, .slice none 0 0] 33))
    have HP_y_3 := hJ (P2.lit v 33 (.bool false) (.slice none 0 0))
    obtain ⟨v3, hV⟩ := nmz (World.alloc v (.cells #[.bool false, .slice none 0 0] 33))
    obtain ⟨gy, hg⟩ := nmz (v.heap.size)
    rw [hV] at HB_3 HP_y_3  ⊢
    rw [hg] at HP_y_3  ⊢
    have HG_y := hJ (show x2.heap.size ≤ gy by rw [← hg]; exact HX_j.out.size)
    have HN_x_y := hJ (show gx ≠ gy by have := HP_x_j.out.lt; rw [hg] at this; omega)
    have HX_3 := hJ (bt HX_j.out HB_3.out)
    have a_3 := hJ ((a_j.out).new HB_3.out)
    have b_3 := hJ ((b_j.out).new HB_3.out)
    have q_3 := hJ (PIo.new q_j.out HB_3.out)
    have s_3 := hJ (PIo.new s_j.out HB_3.out)
    have N0_3 := hJ (PIo.new N0_j.out HB_3.out)
    have N1_3 := hJ (PIo.new N1_j.out HB_3.out)
    have HP_x_3 := hJ (HP_x_j.out.new HB_3.out)
    clear hHeld
    refine hK.out _ _ (HS3.out _ HX_3.out) (fun hHeld => ?_)
    clear hK K hV hg HB_3 HX_j a_j b_j q_j s_j N0_j N1_j HP_x_j
    try simp only [PT]
    exact wpAnyH_cast (by kernel_rfl) (J3_7_8_9 s3a A3a n3a c3a s3b A3b n3b c3b gx gy v3 HX_3 a_3 b_3 q_3 s_3 N0_3 N1_3 HP_x_3 (hJ (HG_x_j.out)) HP_y_3 (hJ (HG_y.out)) (hJ (HN_x_y.out)))
   have J3_7_9 : ∀ (s3a : Bool) (A3a : Option Addr) (n3a : Nat) (c3a : Nat) (s3b : Bool) (A3b : Option Addr) (n3b : Nat) (c3b : Nat) (gy : Nat) (v : World), Hid (Below x2.heap.size x2 v) → Hid (PF v sa Aa na ca sb Ab nb cb p q) → Hid (PF v sd Ad nd cd se Ae ne ce r s) → Hid (PI v s2a A2a n2a c2a (q)) → Hid (PI v s2b A2b n2b c2b (s)) → Hid (PI v s3a A3a n3a c3a (muA p s)) → Hid (PI v s3b A3b n3b c3b (muA r q)) → Hid (P2 33 v gy (.bool false) (.slice none 0 0)) → Hid (x2.heap.size ≤ gy) → F 3 (Array.setIfInBounds (Array.setIfInBounds (Array.setIfInBounds L0 3 true) 7 true) 9 true) (Act.put (Act.put (Act.put a0 (some 22) (.agg #[.bool s3a, .slice A3a n3a c3a])) (some 26) (.agg #[.bool s3b, .slice A3b n3b c3b])) (some 9) (.pointer (some ⟨gy, 0, none⟩))) v := by
    intro s3a A3a n3a c3a s3b A3b n3b c3b gy v HX_j a_j b_j q_j s_j N0_j N1_j HP_y_j HG_y_j
    subst hF ha0 hL0
    simp only [PT] at J3_7_8_9 ⊢
    have hHeld := HS3.out _ HX_j.out
    refine wpAnyH_ready (rs := [8]) (by kernel_rfl) (by simp) ?_
    refine .cons rfl (fun K hK => ?_) .nil
    go_simp
    have HB_4 := hJ ((Below.refl v.heap.size v).alloc (Nat.le_refl _) (.cells #[.bool false, .slice none 0 0] 33))
    have HP_x_4 := hJ (P2.lit v 33 (.bool false) (.slice none 0 0))
    obtain ⟨v4, hV⟩ := nmz (World.alloc v (.cells #[.bool false, .slice none 0 0] 33))
    obtain ⟨gx, hg⟩ := nmz (v.heap.size)
    rw [hV] at HB_4 HP_x_4  ⊢
    rw [hg] at HP_x_4  ⊢
    have HG_x := hJ (show x2.heap.size ≤ gx by rw [← hg]; exact HX_j.out.size)
    have HN_y_x := hJ (show gy ≠ gx by have := HP_y_j.out.lt; rw [hg] at this; omega)
    have HX_4 := hJ (bt HX_j.out HB_4.out)
    have a_4 := hJ ((a_j.out).new HB_4.out)
    have b_4 := hJ ((b_j.out).new HB_4.out)
    have q_4 := hJ (PIo.new q_j.out HB_4.out)
    have s_4 := hJ (PIo.new s_j.out HB_4.out)
    have N0_4 := hJ (PIo.new N0_j.out HB_4.out)
    have N1_4 := hJ (PIo.new N1_j.out HB_4.out)
    have HP_y_4 := hJ (HP_y_j.out.new HB_4.out)
    clear hHeld
    refine hK.out _ _ (HS3.out _ HX_4.out) (fun hHeld => ?_)
    clear hK K hV hg HB_4 HX_j a_j b_j q_j s_j N0_j N1_j HP_y_j
    try simp only [PT]
    exact wpAnyH_cast (by kernel_rfl) (J3_7_8_9 s3a A3a n3a c3a s3b A3b n3b c3b gx gy v4 HX_4 a_4 b_4 q_4 s_4 N0_4 N1_4 HP_x_4 (hJ (HG_x.out)) HP_y_4 (hJ (HG_y_j.out)) (hJ (HN_y_x.out.symm)))
   have J3_8_9 : ∀ (s3a : Bool) (A3a : Option Addr) (n3a : Nat) (c3a : Nat) (gx : Nat) (gy : Nat) (v : World), Hid (Below x2.heap.size x2 v) → Hid (PF v sa Aa na ca sb Ab nb cb p q) → Hid (PF v sd Ad nd cd se Ae ne ce r s) → Hid (PI v s2a A2a n2a c2a (q)) → Hid (PI v s2b A2b n2b c2b (s)) → Hid (PI v s3a A3a n3a c3a (muA p s)) → Hid (P2 33 v gx (.bool false) (.slice none 0 0)) → Hid (x2.heap.size ≤ gx) → Hid (P2 33 v gy (.bool false) (.slice none 0 0)) → Hid (x2.heap.size ≤ gy) → Hid (gx ≠ gy) → F 3 (Array.setIfInBounds (Array.setIfInBounds (Array.setIfInBounds L0 3 true) 8 true) 9 true) (Act.put (Act.put (Act.put a0 (some 22) (.agg #[.bool s3a, .slice A3a n3a c3a])) (some 8) (.pointer (some ⟨gx, 0, none⟩))) (some 9) (.pointer (some ⟨gy, 0, none⟩))) v := by
    intro s3a A3a n3a c3a gx gy v HX_j a_j b_j q_j s_j N0_j HP_x_j HG_x_j HP_y_j HG_y_j HN_x_y_j
    subst hF ha0 hL0
    simp only [PT] at J3_7_8_9 ⊢
    have hHeld := HS3.out _ HX_j.out
    refine wpAnyH_ready (rs := [7]) (by kernel_rfl) (by simp) ?_
    refine .cons rfl (fun K hK => ?_) .nil
    go_simp
    go_at_call_of 99 (#[Value.agg #[.bool sd, .slice Ad nd cd], Value.agg #[.bool s2a, .slice A2a n2a c2a]])
    refine (fcommon_any r q sd s2a Ad A2a nd cd n2a c2a v (b_j.out).1 (q_j.out) (by omega) (by omega)).mono ?_
    rintro e v5 ⟨s3b, A3b, n3b, c3b, rfl, hr, hk⟩
    have N1_5 := hJ (hr)
    have HB_5 := hJ hk
    go_wp2_with fail
    have HX_5 := hJ (bt HX_j.out HB_5.out)
    have a_5 := hJ ((a_j.out).new HB_5.out)
    have b_5 := hJ ((b_j.out).new HB_5.out)
    have q_5 := hJ (PIo.new q_j.out HB_5.out)
    have s_5 := hJ (PIo.new s_j.out HB_5.out)
    have N0_5 := hJ (PIo.new N0_j.out HB_5.out)
    have HP_x_5 := hJ (HP_x_j.out.new HB_5.out)
    have HP_y_5 := hJ (HP_y_j.out.new HB_5.out)
    clear hHeld
    refine hK.out _ _ (HS3.out _ HX_5.out) (fun hHeld => ?_)
    clear hK K hk HB_5 hr HX_j a_j b_j q_j s_j N0_j HP_x_j HP_y_j
    try simp only [PT]
    exact wpAnyH_cast (by kernel_rfl) (J3_7_8_9 s3a A3a n3a c3a s3b A3b n3b c3b gx gy v5 HX_5 a_5 b_5 q_5 s_5 N0_5 N1_5 HP_x_5 (hJ (HG_x_j.out)) HP_y_5 (hJ (HG_y_j.out)) (hJ (HN_x_y_j.out)))
   have J3_7 : ∀ (s3a : Bool) (A3a : Option Addr) (n3a : Nat) (c3a : Nat) (s3b : Bool) (A3b : Option Addr) (n3b : Nat) (c3b : Nat) (v : World), Hid (Below x2.heap.size x2 v) → Hid (PF v sa Aa na ca sb Ab nb cb p q) → Hid (PF v sd Ad nd cd se Ae ne ce r s) → Hid (PI v s2a A2a n2a c2a (q)) → Hid (PI v s2b A2b n2b c2b (s)) → Hid (PI v s3a A3a n3a c3a (muA p s)) → Hid (PI v s3b A3b n3b c3b (muA r q)) → F 4 (Array.setIfInBounds (Array.setIfInBounds L0 3 true) 7 true) (Act.put (Act.put a0 (some 22) (.agg #[.bool s3a, .slice A3a n3a c3a])) (some 26) (.agg #[.bool s3b, .slice A3b n3b c3b])) v := by
    intro s3a A3a n3a c3a s3b A3b n3b c3b v HX_j a_j b_j q_j s_j N0_j N1_j
    subst hF ha0 hL0
    simp only [PT] at J3_7_8 J3_7_9 ⊢
    have hHeld := HS3.out _ HX_j.out
    refine wpAnyH_ready (rs := [8, 9]) (by kernel_rfl) (by simp) ?_
    refine .cons rfl (fun K hK => ?_) ?_
    go_simp
    have HB_6 := hJ ((Below.refl v.heap.size v).alloc (Nat.le_refl _) (.cells #[.bool false, .slice none 0 0] 33))
    have HP_x_6 := hJ (P2.lit v 33 (.bool false) (.slice none 0 0))
    obtain ⟨v6, hV⟩ := nmz (World.alloc v (.cells #[.bool false, .slice none 0 0] 33))
    obtain ⟨gx, hg⟩ := nmz (v.heap.size)
    rw [hV] at HB_6 HP_x_6  ⊢
    rw [hg] at HP_x_6  ⊢
    have HG_x := hJ (show x2.heap.size ≤ gx by rw [← hg]; exact HX_j.out.size)
    have HX_6 := hJ (bt HX_j.out HB_6.out)
    have a_6 := hJ ((a_j.out).new HB_6.out)
    have b_6 := hJ ((b_j.out).new HB_6.out)
    have q_6 := hJ (PIo.new q_j.out HB_6.out)
    have s_6 := hJ (PIo.new s_j.out HB_6.out)
    have N0_6 := hJ (PIo.new N0_j.out HB_6.out)
    have N1_6 := hJ (PIo.new N1_j.out HB_6.out)
    clear hHeld
    refine hK.out _ _ (HS3.out _ HX_6.out) (fun hHeld => ?_)
    clear hK K hV hg HB_6 HX_j a_j b_j q_j s_j N0_j N1_j
    try simp only [PT]
    exact wpAnyH_cast (by kernel_rfl) (J3_7_8 s3a A3a n3a c3a s3b A3b n3b c3b gx v6 HX_6 a_6 b_6 q_6 s_6 N0_6 N1_6 HP_x_6 (hJ (HG_x.out)))
    refine .cons rfl (fun K hK => ?_) .nil
    go_simp
    have HB_7 := hJ ((Below.refl v.heap.size v).alloc (Nat.le_refl _) (.cells #[.bool false, .slice none 0 0] 33))
    have HP_y_7 := hJ (P2.lit v 33 (.bool false) (.slice none 0 0))
    obtain ⟨v7, hV⟩ := nmz (World.alloc v (.cells #[.bool false, .slice none 0 0] 33))
    obtain ⟨gy, hg⟩ := nmz (v.heap.size)
    rw [hV] at HB_7 HP_y_7  ⊢
    rw [hg] at HP_y_7  ⊢
    have HG_y := hJ (show x2.heap.size ≤ gy by rw [← hg]; exact HX_j.out.size)
    have HX_7 := hJ (bt HX_j.out HB_7.out)
    have a_7 := hJ ((a_j.out).new HB_7.out)
    have b_7 := hJ ((b_j.out).new HB_7.out)
    have q_7 := hJ (PIo.new q_j.out HB_7.out)
    have s_7 := hJ (PIo.new s_j.out HB_7.out)
    have N0_7 := hJ (PIo.new N0_j.out HB_7.out)
    have N1_7 := hJ (PIo.new N1_j.out HB_7.out)
    clear hHeld
    refine hK.out _ _ (HS3.out _ HX_7.out) (fun hHeld => ?_)
    clear hK K hV hg HB_7 HX_j a_j b_j q_j s_j N0_j N1_j
    try simp only [PT]
    exact wpAnyH_cast (by kernel_rfl) (J3_7_9 s3a A3a n3a c3a s3b A3b n3b c3b gy v7 HX_7 a_7 b_7 q_7 s_7 N0_7 N1_7 HP_y_7 (hJ (HG_y.out)))
   have J3_8 : ∀ (s3a : Bool) (A3a : Option Addr) (n3a : Nat) (c3a : Nat) (gx : Nat) (v : World), Hid (Below x2.heap.size x2 v) → Hid (PF v sa Aa na ca sb Ab nb cb p q) → Hid (PF v sd Ad nd cd se Ae ne ce r s) → Hid (PI v s2a A2a n2a c2a (q)) → Hid (PI v s2b A2b n2b c2b (s)) → Hid (PI v s3a A3a n3a c3a (muA p s)) → Hid (P2 33 v gx (.bool false) (.slice none 0 0)) → Hid (x2.heap.size ≤ gx) → F 4 (Array.setIfInBounds (Array.setIfInBounds L0 3 true) 8 true) (Act.put (Act.put a0 (some 22) (.agg #[.bool s3a, .slice A3a n3a c3a])) (some 8) (.pointer (some ⟨gx, 0, none⟩))) v := by
    intro s3a A3a n3a c3a gx v HX_j a_j b_j q_j s_j N0_j HP_x_j HG_x_j
    subst hF ha0 hL0
    simp only [PT] at J3_7_8 J3_8_9 ⊢
    have hHeld := HS3.out _ HX_j.out
    refine wpAnyH_ready (rs := [7, 9]) (by kernel_rfl) (by simp) ?_
    refine .cons rfl (fun K hK => ?_) ?_
    go_simp
    go_at_call_of 99 (#[Value.agg #[.bool sd, .slice Ad nd cd], Value.agg #[.bool s2a, .slice A2a n2a c2a]])
    refine (fcommon_any r q sd s2a Ad A2a nd cd n2a c2a v (b_j.out).1 (q_j.out) (by omega) (by omega)).mono ?_
    rintro e v8 ⟨s3b, A3b, n3b, c3b, rfl, hr, hk⟩
    have N1_8 := hJ (hr)
    have HB_8 := hJ hk
    go_wp2_with fail
    have HX_8 := hJ (bt HX_j.out HB_8.out)
    have a_8 := hJ ((a_j.out).new HB_8.out)
    have b_8 := hJ ((b_j.out).new HB_8.out)
    have q_8 := hJ (PIo.new q_j.out HB_8.out)
    have s_8 := hJ (PIo.new s_j.out HB_8.out)
    have N0_8 := hJ (PIo.new N0_j.out HB_8.out)
    have HP_x_8 := hJ (HP_x_j.out.new HB_8.out)
    clear hHeld
    refine hK.out _ _ (HS3.out _ HX_8.out) (fun hHeld => ?_)
    clear hK K hk HB_8 hr HX_j a_j b_j q_j s_j N0_j HP_x_j
    try simp only [PT]
    exact wpAnyH_cast (by kernel_rfl) (J3_7_8 s3a A3a n3a c3a s3b A3b n3b c3b gx v8 HX_8 a_8 b_8 q_8 s_8 N0_8 N1_8 HP_x_8 (hJ (HG_x_j.out)))
    refine .cons rfl (fun K hK => ?_) .nil
    go_simp
    have HB_9 := hJ ((Below.refl v.heap.size v).alloc (Nat.le_refl _) (.cells #[.bool false, .slice none 0 0] 33))
    have HP_y_9 := hJ (P2.lit v 33 (.bool false) (.slice none 0 0))
    obtain ⟨v9, hV⟩ := nmz (World.alloc v (.cells #[.bool false, .slice none 0 0] 33))
    obtain ⟨gy, hg⟩ := nmz (v.heap.size)
    rw [hV] at HB_9 HP_y_9  ⊢
    rw [hg] at HP_y_9  ⊢
    have HG_y := hJ (show x2.heap.size ≤ gy by rw [← hg]; exact HX_j.out.size)
    have HN_x_y := hJ (show gx ≠ gy by have := HP_x_j.out.lt; rw [hg] at this; omega)
    have HX_9 := hJ (bt HX_j.out HB_9.out)
    have a_9 := hJ ((a_j.out).new HB_9.out)
    have b_9 := hJ ((b_j.out).new HB_9.out)
    have q_9 := hJ (PIo.new q_j.out HB_9.out)
    have s_9 := hJ (PIo.new s_j.out HB_9.out)
    have N0_9 := hJ (PIo.new N0_j.out HB_9.out)
    have HP_x_9 := hJ (HP_x_j.out.new HB_9.out)
    clear hHeld
    refine hK.out _ _ (HS3.out _ HX_9.out) (fun hHeld => ?_)
    clear hK K hV hg HB_9 HX_j a_j b_j q_j s_j N0_j HP_x_j
    try simp only [PT]
    exact wpAnyH_cast (by kernel_rfl) (J3_8_9 s3a A3a n3a c3a gx gy v9 HX_9 a_9 b_9 q_9 s_9 N0_9 HP_x_9 (hJ (HG_x_j.out)) HP_y_9 (hJ (HG_y.out)) (hJ (HN_x_y.out)))
   have J3_9 : ∀ (s3a : Bool) (A3a : Option Addr) (n3a : Nat) (c3a : Nat) (gy : Nat) (v : World), Hid (Below x2.heap.size x2 v) → Hid (PF v sa Aa na ca sb Ab nb cb p q) → Hid (PF v sd Ad nd cd se Ae ne ce r s) → Hid (PI v s2a A2a n2a c2a (q)) → Hid (PI v s2b A2b n2b c2b (s)) → Hid (PI v s3a A3a n3a c3a (muA p s)) → Hid (P2 33 v gy (.bool false) (.slice none 0 0)) → Hid (x2.heap.size ≤ gy) → F 4 (Array.setIfInBounds (Array.setIfInBounds L0 3 true) 9 true) (Act.put (Act.put a0 (some 22) (.agg #[.bool s3a, .slice A3a n3a c3a])) (some 9) (.pointer (some ⟨gy, 0, none⟩))) v := by
    intro s3a A3a n3a c3a gy v HX_j a_j b_j q_j s_j N0_j HP_y_j HG_y_j
    subst hF ha0 hL0
    simp only [PT] at J3_7_9 J3_8_9 ⊢
    have hHeld := HS3.out _ HX_j.out
    refine wpAnyH_ready (rs := [7, 8]) (by kernel_rfl) (by simp) ?_
    refine .cons rfl (fun K hK => ?_) ?_
    go_simp
    go_at_call_of 99 (#[Value.agg #[.bool sd, .slice Ad nd cd], Value.agg #[.bool s2a, .slice A2a n2a c2a]])
    refine (fcommon_any r q sd s2a Ad A2a nd cd n2a c2a v (b_j.out).1 (q_j.out) (by omega) (by omega)).mono ?_
    rintro e v10 ⟨s3b, A3b, n3b, c3b, rfl, hr, hk⟩
    have N1_10 := hJ (hr)
    have HB_10 := hJ hk
    go_wp2_with fail
    have HX_10 := hJ (bt HX_j.out HB_10.out)
    have a_10 := hJ ((a_j.out).new HB_10.out)
    have b_10 := hJ ((b_j.out).new HB_10.out)
    have q_10 := hJ (PIo.new q_j.out HB_10.out)
    have s_10 := hJ (PIo.new s_j.out HB_10.out)
    have N0_10 := hJ (PIo.new N0_j.out HB_10.out)
    have HP_y_10 := hJ (HP_y_j.out.new HB_10.out)
    clear hHeld
    refine hK.out _ _ (HS3.out _ HX_10.out) (fun hHeld => ?_)
    clear hK K hk HB_10 hr HX_j a_j b_j q_j s_j N0_j HP_y_j
    try simp only [PT]
    exact wpAnyH_cast (by kernel_rfl) (J3_7_9 s3a A3a n3a c3a s3b A3b n3b c3b gy v10 HX_10 a_10 b_10 q_10 s_10 N0_10 N1_10 HP_y_10 (hJ (HG_y_j.out)))
    refine .cons rfl (fun K hK => ?_) .nil
    go_simp
    have HB_11 := hJ ((Below.refl v.heap.size v).alloc (Nat.le_refl _) (.cells #[.bool false, .slice none 0 0] 33))
    have HP_x_11 := hJ (P2.lit v 33 (.bool false) (.slice none 0 0))
    obtain ⟨v11, hV⟩ := nmz (World.alloc v (.cells #[.bool false, .slice none 0 0] 33))
    obtain ⟨gx, hg⟩ := nmz (v.heap.size)
    rw [hV] at HB_11 HP_x_11  ⊢
    rw [hg] at HP_x_11  ⊢
    have HG_x := hJ (show x2.heap.size ≤ gx by rw [← hg]; exact HX_j.out.size)
    have HN_y_x := hJ (show gy ≠ gx by have := HP_y_j.out.lt; rw [hg] at this; omega)
    have HX_11 := hJ (bt HX_j.out HB_11.out)
    have a_11 := hJ ((a_j.out).new HB_11.out)
    have b_11 := hJ ((b_j.out).new HB_11.out)
    have q_11 := hJ (PIo.new q_j.out HB_11.out)
    have s_11 := hJ (PIo.new s_j.out HB_11.out)
    have N0_11 := hJ (PIo.new N0_j.out HB_11.out)
    have HP_y_11 := hJ (HP_y_j.out.new HB_11.out)
    clear hHeld
    refine hK.out _ _ (HS3.out _ HX_11.out) (fun hHeld => ?_)
    clear hK K hV hg HB_11 HX_j a_j b_j q_j s_j N0_j HP_y_j
    try simp only [PT]
    exact wpAnyH_cast (by kernel_rfl) (J3_8_9 s3a A3a n3a c3a gx gy v11 HX_11 a_11 b_11 q_11 s_11 N0_11 HP_x_11 (hJ (HG_x.out)) HP_y_11 (hJ (HG_y_j.out)) (hJ (HN_y_x.out.symm)))
   have J8_9 : ∀ (gx : Nat) (gy : Nat) (v : World), Hid (Below x2.heap.size x2 v) → Hid (PF v sa Aa na ca sb Ab nb cb p q) → Hid (PF v sd Ad nd cd se Ae ne ce r s) → Hid (PI v s2a A2a n2a c2a (q)) → Hid (PI v s2b A2b n2b c2b (s)) → Hid (P2 33 v gx (.bool false) (.slice none 0 0)) → Hid (x2.heap.size ≤ gx) → Hid (P2 33 v gy (.bool false) (.slice none 0 0)) → Hid (x2.heap.size ≤ gy) → Hid (gx ≠ gy) → F 4 (Array.setIfInBounds (Array.setIfInBounds L0 8 true) 9 true) (Act.put (Act.put a0 (some 8) (.pointer (some ⟨gx, 0, none⟩))) (some 9) (.pointer (some ⟨gy, 0, none⟩))) v := by
    intro gx gy v HX_j a_j b_j q_j s_j HP_x_j HG_x_j HP_y_j HG_y_j HN_x_y_j
    subst hF ha0 hL0
    simp only [PT] at J3_8_9 ⊢
    have hHeld := HS3.out _ HX_j.out
    refine wpAnyH_ready (rs := [3]) (by kernel_rfl) (by simp) ?_
    refine .cons rfl (fun K hK => ?_) .nil
    go_simp
    go_at_call_of 99 (#[Value.agg #[.bool sa, .slice Aa na ca], Value.agg #[.bool s2b, .slice A2b n2b c2b]])
    refine (fcommon_any p s sa s2b Aa A2b na ca n2b c2b v (a_j.out).1 (s_j.out) (by omega) (by omega)).mono ?_
    rintro e v12 ⟨s3a, A3a, n3a, c3a, rfl, hr, hk⟩
    have N0_12 := hJ (hr)
    have HB_12 := hJ hk
    go_wp2_with fail
    have HX_12 := hJ (bt HX_j.out HB_12.out)
    have a_12 := hJ ((a_j.out).new HB_12.out)
    have b_12 := hJ ((b_j.out).new HB_12.out)
    have q_12 := hJ (PIo.new q_j.out HB_12.out)
    have s_12 := hJ (PIo.new s_j.out HB_12.out)
    have HP_x_12 := hJ (HP_x_j.out.new HB_12.out)
    have HP_y_12 := hJ (HP_y_j.out.new HB_12.out)
    clear hHeld
    refine hK.out _ _ (HS3.out _ HX_12.out) (fun hHeld => ?_)
    clear hK K hk HB_12 hr HX_j a_j b_j q_j s_j HP_x_j HP_y_j
    try simp only [PT]
    exact wpAnyH_cast (by kernel_rfl) (J3_8_9 s3a A3a n3a c3a gx gy v12 HX_12 a_12 b_12 q_12 s_12 N0_12 HP_x_12 (hJ (HG_x_j.out)) HP_y_12 (hJ (HG_y_j.out)) (hJ (HN_x_y_j.out)))
   have J3 : ∀ (s3a : Bool) (A3a : Option Addr) (n3a : Nat) (c3a : Nat) (v : World), Hid (Below x2.heap.size x2 v) → Hid (PF v sa Aa na ca sb Ab nb cb p q) → Hid (PF v sd Ad nd cd se Ae ne ce r s) → Hid (PI v s2a A2a n2a c2a (q)) → Hid (PI v s2b A2b n2b c2b (s)) → Hid (PI v s3a A3a n3a c3a (muA p s)) → F 5 (Array.setIfInBounds L0 3 true) (Act.put a0 (some 22) (.agg #[.bool s3a, .slice A3a n3a c3a])) v := by
    intro s3a A3a n3a c3a v HX_j a_j b_j q_j s_j N0_j
    subst hF ha0 hL0
    simp only [PT] at J3_7 J3_8 J3_9 ⊢
    have hHeld := HS3.out _ HX_j.out
    refine wpAnyH_ready (rs := [7, 8, 9]) (by kernel_rfl) (by simp) ?_
    refine .cons rfl (fun K hK => ?_) ?_
    go_simp
    go_at_call_of 99 (#[Value.agg #[.bool sd, .slice Ad nd cd], Value.agg #[.bool s2a, .slice A2a n2a c2a]])
    refine (fcommon_any r q sd s2a Ad A2a nd cd n2a c2a v (b_j.out).1 (q_j.out) (by omega) (by omega)).mono ?_
    rintro e v13 ⟨s3b, A3b, n3b, c3b, rfl, hr, hk⟩
    have N1_13 := hJ (hr)
    have HB_13 := hJ hk
    go_wp2_with fail
    have HX_13 := hJ (bt HX_j.out HB_13.out)
    have a_13 := hJ ((a_j.out).new HB_13.out)
    have b_13 := hJ ((b_j.out).new HB_13.out)
    have q_13 := hJ (PIo.new q_j.out HB_13.out)
    have s_13 := hJ (PIo.new s_j.out HB_13.out)
    have N0_13 := hJ (PIo.new N0_j.out HB_13.out)
    clear hHeld
    refine hK.out _ _ (HS3.out _ HX_13.out) (fun hHeld => ?_)
    clear hK K hk HB_13 hr HX_j a_j b_j q_j s_j N0_j
    try simp only [PT]
    exact wpAnyH_cast (by kernel_rfl) (J3_7 s3a A3a n3a c3a s3b A3b n3b c3b v13 HX_13 a_13 b_13 q_13 s_13 N0_13 N1_13)
    refine .cons rfl (fun K hK => ?_) ?_
    go_simp
    have HB_14 := hJ ((Below.refl v.heap.size v).alloc (Nat.le_refl _) (.cells #[.bool false, .slice none 0 0] 33))
    have HP_x_14 := hJ (P2.lit v 33 (.bool false) (.slice none 0 0))
    obtain ⟨v14, hV⟩ := nmz (World.alloc v (.cells #[.bool false, .slice none 0 0] 33))
    obtain ⟨gx, hg⟩ := nmz (v.heap.size)
    rw [hV] at HB_14 HP_x_14  ⊢
    rw [hg] at HP_x_14  ⊢
    have HG_x := hJ (show x2.heap.size ≤ gx by rw [← hg]; exact HX_j.out.size)
    have HX_14 := hJ (bt HX_j.out HB_14.out)
    have a_14 := hJ ((a_j.out).new HB_14.out)
    have b_14 := hJ ((b_j.out).new HB_14.out)
    have q_14 := hJ (PIo.new q_j.out HB_14.out)
    have s_14 := hJ (PIo.new s_j.out HB_14.out)
    have N0_14 := hJ (PIo.new N0_j.out HB_14.out)
    clear hHeld
    refine hK.out _ _ (HS3.out _ HX_14.out) (fun hHeld => ?_)
    clear hK K hV hg HB_14 HX_j a_j b_j q_j s_j N0_j
    try simp only [PT]
    exact wpAnyH_cast (by kernel_rfl) (J3_8 s3a A3a n3a c3a gx v14 HX_14 a_14 b_14 q_14 s_14 N0_14 HP_x_14 (hJ (HG_x.out)))
    refine .cons rfl (fun K hK => ?_) .nil
    go_simp
    have HB_15 := hJ ((Below.refl v.heap.size v).alloc (Nat.le_refl _) (.cells #[.bool false, .slice none 0 0] 33))
    have HP_y_15 := hJ (P2.lit v 33 (.bool false) (.slice none 0 0))
    obtain ⟨v15, hV⟩ := nmz (World.alloc v (.cells #[.bool false, .slice none 0 0] 33))
    obtain ⟨gy, hg⟩ := nmz (v.heap.size)
    rw [hV] at HB_15 HP_y_15  ⊢
    rw [hg] at HP_y_15  ⊢
    have HG_y := hJ (show x2.heap.size ≤ gy by rw [← hg]; exact HX_j.out.size)
    have HX_15 := hJ (bt HX_j.out HB_15.out)
    have a_15 := hJ ((a_j.out).new HB_15.out)
    have b_15 := hJ ((b_j.out).new HB_15.out)
    have q_15 := hJ (PIo.new q_j.out HB_15.out)
    have s_15 := hJ (PIo.new s_j.out HB_15.out)
    have N0_15 := hJ (PIo.new N0_j.out HB_15.out)
    clear hHeld
    refine hK.out _ _ (HS3.out _ HX_15.out) (fun hHeld => ?_)
    clear hK K hV hg HB_15 HX_j a_j b_j q_j s_j N0_j
    try simp only [PT]
    exact wpAnyH_cast (by kernel_rfl) (J3_9 s3a A3a n3a c3a gy v15 HX_15 a_15 b_15 q_15 s_15 N0_15 HP_y_15 (hJ (HG_y.out)))
   have J8 : ∀ (gx : Nat) (v : World), Hid (Below x2.heap.size x2 v) → Hid (PF v sa Aa na ca sb Ab nb cb p q) → Hid (PF v sd Ad nd cd se Ae ne ce r s) → Hid (PI v s2a A2a n2a c2a (q)) → Hid (PI v s2b A2b n2b c2b (s)) → Hid (P2 33 v gx (.bool false) (.slice none 0 0)) → Hid (x2.heap.size ≤ gx) → F 5 (Array.setIfInBounds L0 8 true) (Act.put a0 (some 8) (.pointer (some ⟨gx, 0, none⟩))) v := by
    intro gx v HX_j a_j b_j q_j s_j HP_x_j HG_x_j
    subst hF ha0 hL0
    simp only [PT] at J3_8 J8_9 ⊢
    have hHeld := HS3.out _ HX_j.out
    refine wpAnyH_ready (rs := [3, 9]) (by kernel_rfl) (by simp) ?_
    refine .cons rfl (fun K hK => ?_) ?_
    go_simp
    go_at_call_of 99 (#[Value.agg #[.bool sa, .slice Aa na ca], Value.agg #[.bool s2b, .slice A2b n2b c2b]])
    refine (fcommon_any p s sa s2b Aa A2b na ca n2b c2b v (a_j.out).1 (s_j.out) (by omega) (by omega)).mono ?_
    rintro e v16 ⟨s3a, A3a, n3a, c3a, rfl, hr, hk⟩
    have N0_16 := hJ (hr)
    have HB_16 := hJ hk
    go_wp2_with fail
    have HX_16 := hJ (bt HX_j.out HB_16.out)
    have a_16 := hJ ((a_j.out).new HB_16.out)
    have b_16 := hJ ((b_j.out).new HB_16.out)
    have q_16 := hJ (PIo.new q_j.out HB_16.out)
    have s_16 := hJ (PIo.new s_j.out HB_16.out)
    have HP_x_16 := hJ (HP_x_j.out.new HB_16.out)
    clear hHeld
    refine hK.out _ _ (HS3.out _ HX_16.out) (fun hHeld => ?_)
    clear hK K hk HB_16 hr HX_j a_j b_j q_j s_j HP_x_j
    try simp only [PT]
    exact wpAnyH_cast (by kernel_rfl) (J3_8 s3a A3a n3a c3a gx v16 HX_16 a_16 b_16 q_16 s_16 N0_16 HP_x_16 (hJ (HG_x_j.out)))
    refine .cons rfl (fun K hK => ?_) .nil
    go_simp
    have HB_17 := hJ ((Below.refl v.heap.size v).alloc (Nat.le_refl _) (.cells #[.bool false, .slice none 0 0] 33))
    have HP_y_17 := hJ (P2.lit v 33 (.bool false) (.slice none 0 0))
    obtain ⟨v17, hV⟩ := nmz (World.alloc v (.cells #[.bool false, .slice none 0 0] 33))
    obtain ⟨gy, hg⟩ := nmz (v.heap.size)
    rw [hV] at HB_17 HP_y_17  ⊢
    rw [hg] at HP_y_17  ⊢
    have HG_y := hJ (show x2.heap.size ≤ gy by rw [← hg]; exact HX_j.out.size)
    have HN_x_y := hJ (show gx ≠ gy by have := HP_x_j.out.lt; rw [hg] at this; omega)
    have HX_17 := hJ (bt HX_j.out HB_17.out)
    have a_17 := hJ ((a_j.out).new HB_17.out)
    have b_17 := hJ ((b_j.out).new HB_17.out)
    have q_17 := hJ (PIo.new q_j.out HB_17.out)
    have s_17 := hJ (PIo.new s_j.out HB_17.out)
    have HP_x_17 := hJ (HP_x_j.out.new HB_17.out)
    clear hHeld
    refine hK.out _ _ (HS3.out _ HX_17.out) (fun hHeld => ?_)
    clear hK K hV hg HB_17 HX_j a_j b_j q_j s_j HP_x_j
    try simp only [PT]
    exact wpAnyH_cast (by kernel_rfl) (J8_9 gx gy v17 HX_17 a_17 b_17 q_17 s_17 HP_x_17 (hJ (HG_x_j.out)) HP_y_17 (hJ (HG_y.out)) (hJ (HN_x_y.out)))
   have J9 : ∀ (gy : Nat) (v : World), Hid (Below x2.heap.size x2 v) → Hid (PF v sa Aa na ca sb Ab nb cb p q) → Hid (PF v sd Ad nd cd se Ae ne ce r s) → Hid (PI v s2a A2a n2a c2a (q)) → Hid (PI v s2b A2b n2b c2b (s)) → Hid (P2 33 v gy (.bool false) (.slice none 0 0)) → Hid (x2.heap.size ≤ gy) → F 5 (Array.setIfInBounds L0 9 true) (Act.put a0 (some 9) (.pointer (some ⟨gy, 0, none⟩))) v := by
    intro gy v HX_j a_j b_j q_j s_j HP_y_j HG_y_j
    subst hF ha0 hL0
    simp only [PT] at J3_9 J8_9 ⊢
    have hHeld := HS3.out _ HX_j.out
    refine wpAnyH_ready (rs := [3, 8]) (by kernel_rfl) (by simp) ?_
    refine .cons rfl (fun K hK => ?_) ?_
    go_simp
    go_at_call_of 99 (#[Value.agg #[.bool sa, .slice Aa na ca], Value.agg #[.bool s2b, .slice A2b n2b c2b]])
    refine (fcommon_any p s sa s2b Aa A2b na ca n2b c2b v (a_j.out).1 (s_j.out) (by omega) (by omega)).mono ?_
    rintro e v18 ⟨s3a, A3a, n3a, c3a, rfl, hr, hk⟩
    have N0_18 := hJ (hr)
    have HB_18 := hJ hk
    go_wp2_with fail
    have HX_18 := hJ (bt HX_j.out HB_18.out)
    have a_18 := hJ ((a_j.out).new HB_18.out)
    have b_18 := hJ ((b_j.out).new HB_18.out)
    have q_18 := hJ (PIo.new q_j.out HB_18.out)
    have s_18 := hJ (PIo.new s_j.out HB_18.out)
    have HP_y_18 := hJ (HP_y_j.out.new HB_18.out)
    clear hHeld
    refine hK.out _ _ (HS3.out _ HX_18.out) (fun hHeld => ?_)
    clear hK K hk HB_18 hr HX_j a_j b_j q_j s_j HP_y_j
    try simp only [PT]
    exact wpAnyH_cast (by kernel_rfl) (J3_9 s3a A3a n3a c3a gy v18 HX_18 a_18 b_18 q_18 s_18 N0_18 HP_y_18 (hJ (HG_y_j.out)))
    refine .cons rfl (fun K hK => ?_) .nil
    go_simp
    have HB_19 := hJ ((Below.refl v.heap.size v).alloc (Nat.le_refl _) (.cells #[.bool false, .slice none 0 0] 33))
    have HP_x_19 := hJ (P2.lit v 33 (.bool false) (.slice none 0 0))
    obtain ⟨v19, hV⟩ := nmz (World.alloc v (.cells #[.bool false, .slice none 0 0] 33))
    obtain ⟨gx, hg⟩ := nmz (v.heap.size)
    rw [hV] at HB_19 HP_x_19  ⊢
    rw [hg] at HP_x_19  ⊢
    have HG_x := hJ (show x2.heap.size ≤ gx by rw [← hg]; exact HX_j.out.size)
    have HN_y_x := hJ (show gy ≠ gx by have := HP_y_j.out.lt; rw [hg] at this; omega)
    have HX_19 := hJ (bt HX_j.out HB_19.out)
    have a_19 := hJ ((a_j.out).new HB_19.out)
    have b_19 := hJ ((b_j.out).new HB_19.out)
    have q_19 := hJ (PIo.new q_j.out HB_19.out)
    have s_19 := hJ (PIo.new s_j.out HB_19.out)
    have HP_y_19 := hJ (HP_y_j.out.new HB_19.out)
    clear hHeld
    refine hK.out _ _ (HS3.out _ HX_19.out) (fun hHeld => ?_)
    clear hK K hV hg HB_19 HX_j a_j b_j q_j s_j HP_y_j
    try simp only [PT]
    exact wpAnyH_cast (by kernel_rfl) (J8_9 gx gy v19 HX_19 a_19 b_19 q_19 s_19 HP_x_19 (hJ (HG_x.out)) HP_y_19 (hJ (HG_y_j.out)) (hJ (HN_y_x.out.symm)))
   subst hF ha0 hL0
   simp only [PT] at J3 J8 J9
   refine wpAnyH_ready (rs := [3, 8, 9]) (by kernel_rfl) (by simp) ?_
   refine .cons rfl (fun K hK => ?_) ?_
   go_simp
   go_at_call_of 99 (#[Value.agg #[.bool sa, .slice Aa na ca], Value.agg #[.bool s2b, .slice A2b n2b c2b]])
   refine (fcommon_any p s sa s2b Aa A2b na ca n2b c2b v0 (a_0.out).1 (s_0.out) (by omega) (by omega)).mono ?_
   rintro e v20 ⟨s3a, A3a, n3a, c3a, rfl, hr, hk⟩
   have N0_20 := hJ (hr)
   have HB_20 := hJ hk
   go_wp2_with fail
   have HX_20 := hJ (bt HD0.out HB_20.out)
   have a_20 := hJ ((a_0.out).new HB_20.out)
   have b_20 := hJ ((b_0.out).new HB_20.out)
   have q_20 := hJ (PIo.new q_0.out HB_20.out)
   have s_20 := hJ (PIo.new s_0.out HB_20.out)
   clear hHeld
   refine hK.out _ _ (HS3.out _ HX_20.out) (fun hHeld => ?_)
   clear hK K hk HB_20 hr HD0 a_0 b_0 q_0 s_0
   try simp only [PT]
   exact wpAnyH_cast (by kernel_rfl) (J3 s3a A3a n3a c3a v20 HX_20 a_20 b_20 q_20 s_20 N0_20)
   refine .cons rfl (fun K hK => ?_) ?_
   go_simp
   have HB_21 := hJ ((Below.refl v0.heap.size v0).alloc (Nat.le_refl _) (.cells #[.bool false, .slice none 0 0] 33))
   have HP_x_21 := hJ (P2.lit v0 33 (.bool false) (.slice none 0 0))
   obtain ⟨v21, hV⟩ := nmz (World.alloc v0 (.cells #[.bool false, .slice none 0 0] 33))
   obtain ⟨gx, hg⟩ := nmz (v0.heap.size)
   rw [hV] at HB_21 HP_x_21  ⊢
   rw [hg] at HP_x_21  ⊢
   have HG_x := hJ (show x2.heap.size ≤ gx by rw [← hg]; exact HD0.out.size)
   have HX_21 := hJ (bt HD0.out HB_21.out)
   have a_21 := hJ ((a_0.out).new HB_21.out)
   have b_21 := hJ ((b_0.out).new HB_21.out)
   have q_21 := hJ (PIo.new q_0.out HB_21.out)
   have s_21 := hJ (PIo.new s_0.out HB_21.out)
   clear hHeld
   refine hK.out _ _ (HS3.out _ HX_21.out) (fun hHeld => ?_)
   clear hK K hV hg HB_21 HD0 a_0 b_0 q_0 s_0
   try simp only [PT]
   exact wpAnyH_cast (by kernel_rfl) (J8 gx v21 HX_21 a_21 b_21 q_21 s_21 HP_x_21 (hJ (HG_x.out)))
   refine .cons rfl (fun K hK => ?_) .nil
   go_simp
   have HB_22 := hJ ((Below.refl v0.heap.size v0).alloc (Nat.le_refl _) (.cells #[.bool false, .slice none 0 0] 33))
   have HP_y_22 := hJ (P2.lit v0 33 (.bool false) (.slice none 0 0))
   obtain ⟨v22, hV⟩ := nmz (World.alloc v0 (.cells #[.bool false, .slice none 0 0] 33))
   obtain ⟨gy, hg⟩ := nmz (v0.heap.size)
   rw [hV] at HB_22 HP_y_22  ⊢
   rw [hg] at HP_y_22  ⊢
   have HG_y := hJ (show x2.heap.size ≤ gy by rw [← hg]; exact HD0.out.size)
   have HX_22 := hJ (bt HD0.out HB_22.out)
   have a_22 := hJ ((a_0.out).new HB_22.out)
   have b_22 := hJ ((b_0.out).new HB_22.out)
   have q_22 := hJ (PIo.new q_0.out HB_22.out)
   have s_22 := hJ (PIo.new s_0.out HB_22.out)
   clear hHeld
   refine hK.out _ _ (HS3.out _ HX_22.out) (fun hHeld => ?_)
   clear hK K hV hg HB_22 HD0 a_0 b_0 q_0 s_0
   try simp only [PT]
   exact wpAnyH_cast (by kernel_rfl) (J9 gy v22 HX_22 a_22 b_22 q_22 s_22 HP_y_22 (hJ (HG_y.out)))
  case rest =>
   obtain ⟨G3, H3, s3a, A3a, n3a, c3a, s3b, A3b, n3b, c3b, rfl, rfl, hq1, hq2, hr1, hr2, hbx⟩ := hcut
   have HQ3a := hJ hq1
   have HQ3b := hJ hq2
   have HR3a := hJ hr1
   have HR3b := hJ hr2
   have HB3 := hJ hbx
   obtain ⟨x3, rfl⟩ := nm_world hbx
   clear hq1 hq2 hr1 hr2 hbx HS3 HXX3
   have hn3a : n3a ≤ 512 := plim HR3a.out (by exact HGF.out.1.2)
   have hn3b : n3b ≤ 512 := plim HR3b.out (by exact HGF.out.2.1.2)
   have HQa_3 := hJ (HQa_2.out.new HB3.out)
   have HRa_3 := hJ (HRa_2.out.new HB3.out)
   have HQd_3 := hJ (HQd_2.out.new HB3.out)
   have HRd_3 := hJ (HRd_2.out.new HB3.out)
   have HQz_3 := hJ (HQz_2.out.new HB3.out)
   have HRz_3 := hJ (HRz_2.out.new HB3.out)
   have HQ2a_3 := hJ (HQ2a.out.new HB3.out)
   have HR2a_3 := hJ (PIo.new HR2a.out HB3.out)
   have HQ2b_3 := hJ (HQ2b.out.new HB3.out)
   have HR2b_3 := hJ (PIo.new HR2b.out HB3.out)
   have HW_3 := hJ (bt HW_2.out HB3.out)
   clear HQa_2 HRa_2 HQd_2 HRd_2 HQz_2 HRz_2 HQ2a HR2a HQ2b HR2b HW_2 HB3
   obtain ⟨u, hu⟩ : ∃ x, muA p s = x := ⟨_, rfl⟩
   obtain ⟨v, hv⟩ : ∃ x, muA r q = x := ⟨_, rfl⟩
   rw [hu] at HGF HR3a
   rw [hv] at HGF HR3b
   have HUV := hJ (And.intro hu hv)
   clear hu hv
   have HS4 : Hid (∀ w', Below x3.heap.size x3 w' → (fun w' : World => w'.cell? ⟨h, 0, none⟩ = some (.bool sa) ∧ w'.cell? ⟨h, 1, none⟩ = some (.slice Aa na ca) ∧ w'.cell? ⟨h, 2, none⟩ = some (.bool sb) ∧ w'.cell? ⟨h, 3, none⟩ = some (.slice Ab nb cb) ∧ w'.cell? ⟨(h + 1), 0, none⟩ = some (.bool sd) ∧ w'.cell? ⟨(h + 1), 1, none⟩ = some (.slice Ad nd cd) ∧ w'.cell? ⟨(h + 1), 2, none⟩ = some (.bool se) ∧ w'.cell? ⟨(h + 1), 3, none⟩ = some (.slice Ae ne ce) ∧ w'.cell? ⟨G3, 0, none⟩ = some (.bool s3a) ∧ w'.cell? ⟨G3, 1, none⟩ = some (.slice A3a n3a c3a) ∧ w'.cell? ⟨H3, 0, none⟩ = some (.bool s3b) ∧ w'.cell? ⟨H3, 1, none⟩ = some (.slice A3b n3b c3b) ∧ Below x3.heap.size x3 w') w') := hJ (fun w' hb => ⟨(HQa_3.out.new hb).cells.1, (HQa_3.out.new hb).cells.2.1, (HQa_3.out.new hb).cells.2.2.1, (HQa_3.out.new hb).cells.2.2.2, (HQd_3.out.new hb).cells.1, (HQd_3.out.new hb).cells.2.1, (HQd_3.out.new hb).cells.2.2.1, (HQd_3.out.new hb).cells.2.2.2, (HQ3a.out.new hb).cells.1, (HQ3a.out.new hb).cells.2, (HQ3b.out.new hb).cells.1, (HQ3b.out.new hb).cells.2, hb⟩)
   have HXX4 := hJ (Below.refl x3.heap.size x3)
   go_upto_region 3 with fail
   go_cut [10, 11] (fun tp tq wx => ∃ (G : Nat) (s4 : Bool) (A4 : Option Addr) (n4 c4 : Nat), tp = .pointer (some ⟨G, 0, none⟩) ∧ tq = .int .i64 (outC ((p / u) * (r / v))) ∧ P2 33 wx G (.bool s4) (.slice A4 n4 c4) ∧ PI wx s4 A4 n4 c4 (outV ((p / u) * (r / v))) ∧ Below x3.heap.size x3 wx)
   case first =>
    obtain ⟨v0, hv0⟩ := nmz (World.drew x3)
    have HD0 := hJ (show Below x3.heap.size x3 v0 by rw [← hv0]; exact (Below.refl _ _).drew)
    have HX_0 := hJ (bt HXX4.out HD0.out)
    have a_0 := hJ ((HRa_3.out).new HD0.out)
    have b_0 := hJ ((HRd_3.out).new HD0.out)
    have f1_0 := hJ (PIo.new HR3a.out HD0.out)
    have f2_0 := hJ (PIo.new HR3b.out HD0.out)
    refine wp_region_held_drew (S := (fun w' : World => w'.cell? ⟨h, 0, none⟩ = some (.bool sa) ∧ w'.cell? ⟨h, 1, none⟩ = some (.slice Aa na ca) ∧ w'.cell? ⟨h, 2, none⟩ = some (.bool sb) ∧ w'.cell? ⟨h, 3, none⟩ = some (.slice Ab nb cb) ∧ w'.cell? ⟨(h + 1), 0, none⟩ = some (.bool sd) ∧ w'.cell? ⟨(h + 1), 1, none⟩ = some (.slice Ad nd cd) ∧ w'.cell? ⟨(h + 1), 2, none⟩ = some (.bool se) ∧ w'.cell? ⟨(h + 1), 3, none⟩ = some (.slice Ae ne ce) ∧ w'.cell? ⟨G3, 0, none⟩ = some (.bool s3a) ∧ w'.cell? ⟨G3, 1, none⟩ = some (.slice A3a n3a c3a) ∧ w'.cell? ⟨H3, 0, none⟩ = some (.bool s3b) ∧ w'.cell? ⟨H3, 1, none⟩ = some (.slice A3b n3b c3b) ∧ Below x3.heap.size x3 w')) (by kernel_rfl) ?_ (fun hHeld => ?_)
    ·rw [hv0]
     exact HS4.out _ HX_0.out
    rw [hv0] at hHeld ⊢
    clear hv0 HD0
    refine tq 0 ?_
    try simp only [PT]
    refine tq 1 ?_
    try simp only [PT]
    refine tq 2 ?_
    try simp only [PT]
    refine tq 4 ?_
    try simp only [PT]
    refine tq 5 ?_
    try simp only [PT]
    refine tq 6 ?_
    try simp only [PT]
    refine wpAnyH_ready (rs := [3, 13]) (by kernel_rfl) (by simp) ?_
    refine .cons rfl (fun K hK => ?_) ?_
    go_simp
    go_at_call_of 102 (#[Value.agg #[.bool sa, .slice Aa na ca], Value.agg #[.bool s3a, .slice A3a n3a c3a]])
    refine (fdivided_any p u sa s3a Aa A3a na ca n3a c3a v0 ((a_0.out).1) (f1_0.out) (by omega) (by omega) HGF.out.1.1).mono ?_
    rintro e v1 ⟨t0, T0, m0, d0, rfl, hr, hk⟩
    have N0_1 := hJ (hr)
    have HB_1 := hJ hk
    go_wp2_with fail
    have HX_1 := hJ (bt HX_0.out HB_1.out)
    have a_1 := hJ ((a_0.out).new HB_1.out)
    have b_1 := hJ ((b_0.out).new HB_1.out)
    have f1_1 := hJ (PIo.new f1_0.out HB_1.out)
    have f2_1 := hJ (PIo.new f2_0.out HB_1.out)
    clear hHeld
    refine hK.out _ _ (HS4.out _ HX_1.out) (fun hHeld => ?_)
    clear hK K hk HB_1 hr HX_0 a_0 b_0 f1_0 f2_0
    try simp only [PT]
    refine wpAnyH_ready (rs := [7, 13]) (by kernel_rfl) (by simp) ?_
    refine .cons rfl (fun K hK => ?_) ?_
    go_simp
    go_at_call_of 102 (#[Value.agg #[.bool sd, .slice Ad nd cd], Value.agg #[.bool s3b, .slice A3b n3b c3b]])
    refine (fdivided_any r v sd s3b Ad A3b nd cd n3b c3b v1 ((b_1.out).1) (f2_1.out) (by omega) (by omega) HGF.out.2.1.1).mono ?_
    rintro e v2 ⟨t1, T1, m1, d1, rfl, hr, hk⟩
    have N1_2 := hJ (hr)
    have HB_2 := hJ hk
    go_wp2_with fail
    have HX_2 := hJ (bt HX_1.out HB_2.out)
    have a_2 := hJ ((a_1.out).new HB_2.out)
    have b_2 := hJ ((b_1.out).new HB_2.out)
    have f1_2 := hJ (PIo.new f1_1.out HB_2.out)
    have f2_2 := hJ (PIo.new f2_1.out HB_2.out)
    have N0_2 := hJ (PIo.new N0_1.out HB_2.out)
    clear hHeld
    refine hK.out _ _ (HS4.out _ HX_2.out) (fun hHeld => ?_)
    clear hK K hk HB_2 hr HX_1 a_1 b_1 f1_1 f2_1 N0_1
    try simp only [PT]
    refine wpAnyH_ready (rs := [8, 13]) (by kernel_rfl) (by simp) ?_
    refine .cons rfl (fun K hK => ?_) ?_
    go_simp
    have HB_3 := hJ ((Below.refl v2.heap.size v2).alloc (Nat.le_refl _) (.cells #[.bool t1, .slice T1 m1 d1] 33))
    have HP_b_3 := hJ (P2.lit v2 33 (.bool t1) (.slice T1 m1 d1))
    have Y_3 := hJ (pel_lit1 (t := 33) N1_2.out HGF.out.2.2.2.1)
    obtain ⟨v3, hV⟩ := nmz (World.alloc v2 (.cells #[.bool t1, .slice T1 m1 d1] 33))
    obtain ⟨gb, hg⟩ := nmz (v2.heap.size)
    rw [hV] at HB_3 HP_b_3 Y_3 ⊢
    rw [hg] at HP_b_3 Y_3 ⊢
    have HG_b := hJ (show x3.heap.size ≤ gb by rw [← hg]; exact HX_2.out.size)
    have HX_3 := hJ (bt HX_2.out HB_3.out)
    have a_3 := hJ ((a_2.out).new HB_3.out)
    have b_3 := hJ ((b_2.out).new HB_3.out)
    have f1_3 := hJ (PIo.new f1_2.out HB_3.out)
    have f2_3 := hJ (PIo.new f2_2.out HB_3.out)
    have N0_3 := hJ (PIo.new N0_2.out HB_3.out)
    have N1_3 := hJ (PIo.new N1_2.out HB_3.out)
    clear hHeld
    refine hK.out _ _ (HS4.out _ HX_3.out) (fun hHeld => ?_)
    clear hK K hV hg HB_3 HX_2 a_2 b_2 f1_2 f2_2 N0_2 N1_2
    try simp only [PT]
    refine wpAnyH_ready (rs := [9, 13]) (by kernel_rfl) (by simp) ?_
    refine .cons rfl (fun K hK => ?_) ?_
    go_simp
    go_at_call 109
    refine (fproduct_any [(r / v)] (p / u) t0 T0 m0 d0 gb 1 v3 N0_3.out HGF.out.2.2.1 Y_3.out HP_b_3.out.lt rfl (by decide)).mono ?_
    rw [(pv_one ((p / u)) ((r / v))).1, (pv_one ((p / u)) ((r / v))).2]
    rintro e v4 ⟨t2, T2, m2, d2, rfl, hr, hk⟩
    have N2_4 := hJ (hr)
    have HB_4 := hJ hk
    go_wp2_with fail
    clear Y_3
    have HX_4 := hJ (bt HX_3.out HB_4.out)
    have a_4 := hJ ((a_3.out).new HB_4.out)
    have b_4 := hJ ((b_3.out).new HB_4.out)
    have f1_4 := hJ (PIo.new f1_3.out HB_4.out)
    have f2_4 := hJ (PIo.new f2_3.out HB_4.out)
    have N0_4 := hJ (PIo.new N0_3.out HB_4.out)
    have N1_4 := hJ (PIo.new N1_3.out HB_4.out)
    have HP_b_4 := hJ (HP_b_3.out.new HB_4.out)
    clear hHeld
    refine hK.out _ _ (HS4.out _ HX_4.out) (fun hHeld => ?_)
    clear hK K hk HB_4 hr HX_3 a_3 b_3 f1_3 f2_3 N0_3 N1_3 HP_b_3
    try simp only [PT]
    refine tq 10 ?_
    try simp only [PT]
    refine tq 11 ?_
    try simp only [PT]
    refine tq 12 ?_
    try simp only [PT]
    refine wpAnyH_ready (rs := [13]) (by kernel_rfl) (by simp) ?_
    refine .cons rfl (fun K hK => ?_) .nil
    go_simp
    have HB_5 := hJ ((Below.refl v4.heap.size v4).alloc (Nat.le_refl _) (.cells #[.bool false, .slice none 0 0] 33))
    have HP_x_5 := hJ (P2.lit v4 33 (.bool false) (.slice none 0 0))
    obtain ⟨v5, hV⟩ := nmz (World.alloc v4 (.cells #[.bool false, .slice none 0 0] 33))
    obtain ⟨gx, hg⟩ := nmz (v4.heap.size)
    rw [hV] at HB_5 HP_x_5  ⊢
    rw [hg] at HP_x_5  ⊢
    have HG_x := hJ (show x3.heap.size ≤ gx by rw [← hg]; exact HX_4.out.size)
    have HN_b_x := hJ (show gb ≠ gx by have := HP_b_4.out.lt; rw [hg] at this; omega)
    have HX_5 := hJ (bt HX_4.out HB_5.out)
    have a_5 := hJ ((a_4.out).new HB_5.out)
    have b_5 := hJ ((b_4.out).new HB_5.out)
    have f1_5 := hJ (PIo.new f1_4.out HB_5.out)
    have f2_5 := hJ (PIo.new f2_4.out HB_5.out)
    have N0_5 := hJ (PIo.new N0_4.out HB_5.out)
    have N1_5 := hJ (PIo.new N1_4.out HB_5.out)
    have N2_5 := hJ (PIo.new N2_4.out HB_5.out)
    have HP_b_5 := hJ (HP_b_4.out.new HB_5.out)
    clear hHeld
    refine hK.out _ _ (HS4.out _ HX_5.out) (fun hHeld => ?_)
    clear hK K hV hg HB_5 HX_4 a_4 b_4 f1_4 f2_4 N0_4 N1_4 N2_4 HP_b_4
    try simp only [PT]
    refine wpAnyH_ready (rs := [14]) (by kernel_rfl) (by simp) ?_
    refine .cons rfl (fun K hK => ?_) .nil
    obtain ⟨z0, z1⟩ := HP_x_5.out.cells
    have y0 := HP_x_5.out.frozen 0
    have y1 := HP_x_5.out.frozen 1
    have z9 := HP_x_5.out.lt
    go_simp
    obtain ⟨v6, hV⟩ := nmz (World.setCell (World.setCell v5 ⟨gx, 0, none⟩ (.bool t2)) ⟨gx, 1, none⟩ (.slice T2 m2 d2))
    rw [hV]
    have HX_6 := hJ (show Below x3.heap.size x3 v6 by rw [← hV]; exact below_box HX_5.out (HG_x.out) _ _)
    have a_6 := hJ (show PF v6 sa Aa na ca sb Ab nb cb p q by rw [← hV]; exact PF.box (a_5.out) (HP_x_5.out) (.bool t2) (.slice T2 m2 d2))
    have b_6 := hJ (show PF v6 sd Ad nd cd se Ae ne ce r s by rw [← hV]; exact PF.box (b_5.out) (HP_x_5.out) (.bool t2) (.slice T2 m2 d2))
    have f1_6 := hJ (show PI v6 s3a A3a n3a c3a (u) by rw [← hV]; exact PIo.box (f1_5.out) (HP_x_5.out) rfl rfl (.bool t2) (.slice T2 m2 d2))
    have f2_6 := hJ (show PI v6 s3b A3b n3b c3b (v) by rw [← hV]; exact PIo.box (f2_5.out) (HP_x_5.out) rfl rfl (.bool t2) (.slice T2 m2 d2))
    have N0_6 := hJ (show PI v6 t0 T0 m0 d0 (p / u) by rw [← hV]; exact PIo.box (N0_5.out) (HP_x_5.out) rfl rfl (.bool t2) (.slice T2 m2 d2))
    have N1_6 := hJ (show PI v6 t1 T1 m1 d1 (r / v) by rw [← hV]; exact PIo.box (N1_5.out) (HP_x_5.out) rfl rfl (.bool t2) (.slice T2 m2 d2))
    have N2_6 := hJ (show PI v6 t2 T2 m2 d2 (outV ((p / u) * (r / v))) by rw [← hV]; exact PIo.box (N2_5.out) (HP_x_5.out) rfl rfl (.bool t2) (.slice T2 m2 d2))
    have HP_b_6 := hJ (show P2 33 v6 gb (.bool t1) (.slice T1 m1 d1) by rw [← hV]; exact HP_b_5.out.far2 (show gb ≠ gx from HN_b_x.out) (.bool t2) (.slice T2 m2 d2))
    have HP_x_6 := hJ (show P2 33 v6 gx (.bool t2) (.slice T2 m2 d2) by rw [← hV]; exact HP_x_5.out.all (.bool t2) (.slice T2 m2 d2))
    clear hHeld
    refine hK.out _ _ (HS4.out _ HX_6.out) (fun hHeld => ?_)
    clear hK K hV z9 z0 z1 y0 y1 HX_5 a_5 b_5 f1_5 f2_5 N0_5 N1_5 N2_5 HP_b_5 HP_x_5
    try simp only [PT]
    refine tq 15 ?_
    try simp only [PT]
    refine wpAnyH_done (by kernel_rfl) ?_ _
    clear hHeld
    go_wp2_with fail
    go_meet
    exact ⟨gx, t2, T2, m2, d2, rfl, rfl, HP_x_6.out, N2_6.out, HX_6.out⟩
    refine .cons rfl (fun K hK => ?_) .nil
    go_simp
    have HB_7 := hJ ((Below.refl v3.heap.size v3).alloc (Nat.le_refl _) (.cells #[.bool false, .slice none 0 0] 33))
    have HP_x_7 := hJ (P2.lit v3 33 (.bool false) (.slice none 0 0))
    obtain ⟨v7, hV⟩ := nmz (World.alloc v3 (.cells #[.bool false, .slice none 0 0] 33))
    obtain ⟨gx, hg⟩ := nmz (v3.heap.size)
    rw [hV] at HB_7 HP_x_7  ⊢
    rw [hg] at HP_x_7  ⊢
    have HG_x := hJ (show x3.heap.size ≤ gx by rw [← hg]; exact HX_3.out.size)
    have HN_b_x := hJ (show gb ≠ gx by have := HP_b_3.out.lt; rw [hg] at this; omega)
    have HX_7 := hJ (bt HX_3.out HB_7.out)
    have a_7 := hJ ((a_3.out).new HB_7.out)
    have b_7 := hJ ((b_3.out).new HB_7.out)
    have f1_7 := hJ (PIo.new f1_3.out HB_7.out)
    have f2_7 := hJ (PIo.new f2_3.out HB_7.out)
    have N0_7 := hJ (PIo.new N0_3.out HB_7.out)
    have N1_7 := hJ (PIo.new N1_3.out HB_7.out)
    have Y_7 := hJ ((Y_3.out).new HB_7.out)
    have HP_b_7 := hJ (HP_b_3.out.new HB_7.out)
    clear hHeld
    refine hK.out _ _ (HS4.out _ HX_7.out) (fun hHeld => ?_)
    clear hK K hV hg HB_7 HX_3 a_3 b_3 f1_3 f2_3 N0_3 N1_3 Y_3 HP_b_3
    try simp only [PT]
    refine wpAnyH_ready (rs := [9]) (by kernel_rfl) (by simp) ?_
    refine .cons rfl (fun K hK => ?_) .nil
    go_simp
    go_at_call 109
    refine (fproduct_any [(r / v)] (p / u) t0 T0 m0 d0 gb 1 v7 N0_7.out HGF.out.2.2.1 Y_7.out HP_b_7.out.lt rfl (by decide)).mono ?_
    rw [(pv_one ((p / u)) ((r / v))).1, (pv_one ((p / u)) ((r / v))).2]
    rintro e v8 ⟨t2, T2, m2, d2, rfl, hr, hk⟩
    have N2_8 := hJ (hr)
    have HB_8 := hJ hk
    go_wp2_with fail
    clear Y_7
    have HX_8 := hJ (bt HX_7.out HB_8.out)
    have a_8 := hJ ((a_7.out).new HB_8.out)
    have b_8 := hJ ((b_7.out).new HB_8.out)
    have f1_8 := hJ (PIo.new f1_7.out HB_8.out)
    have f2_8 := hJ (PIo.new f2_7.out HB_8.out)
    have N0_8 := hJ (PIo.new N0_7.out HB_8.out)
    have N1_8 := hJ (PIo.new N1_7.out HB_8.out)
    have HP_b_8 := hJ (HP_b_7.out.new HB_8.out)
    have HP_x_8 := hJ (HP_x_7.out.new HB_8.out)
    clear hHeld
    refine hK.out _ _ (HS4.out _ HX_8.out) (fun hHeld => ?_)
    clear hK K hk HB_8 hr HX_7 a_7 b_7 f1_7 f2_7 N0_7 N1_7 HP_b_7 HP_x_7
    try simp only [PT]
    refine tq 10 ?_
    try simp only [PT]
    refine tq 11 ?_
    try simp only [PT]
    refine tq 12 ?_
    try simp only [PT]
    refine wpAnyH_ready (rs := [14]) (by kernel_rfl) (by simp) ?_
    refine .cons rfl (fun K hK => ?_) .nil
    obtain ⟨z0, z1⟩ := HP_x_8.out.cells
    have y0 := HP_x_8.out.frozen 0
    have y1 := HP_x_8.out.frozen 1
    have z9 := HP_x_8.out.lt
    go_simp
    obtain ⟨v9, hV⟩ := nmz (World.setCell (World.setCell v8 ⟨gx, 0, none⟩ (.bool t2)) ⟨gx, 1, none⟩ (.slice T2 m2 d2))
    rw [hV]
    have HX_9 := hJ (show Below x3.heap.size x3 v9 by rw [← hV]; exact below_box HX_8.out (HG_x.out) _ _)
    have a_9 := hJ (show PF v9 sa Aa na ca sb Ab nb cb p q by rw [← hV]; exact PF.box (a_8.out) (HP_x_8.out) (.bool t2) (.slice T2 m2 d2))
    have b_9 := hJ (show PF v9 sd Ad nd cd se Ae ne ce r s by rw [← hV]; exact PF.box (b_8.out) (HP_x_8.out) (.bool t2) (.slice T2 m2 d2))
    have f1_9 := hJ (show PI v9 s3a A3a n3a c3a (u) by rw [← hV]; exact PIo.box (f1_8.out) (HP_x_8.out) rfl rfl (.bool t2) (.slice T2 m2 d2))
    have f2_9 := hJ (show PI v9 s3b A3b n3b c3b (v) by rw [← hV]; exact PIo.box (f2_8.out) (HP_x_8.out) rfl rfl (.bool t2) (.slice T2 m2 d2))
    have N0_9 := hJ (show PI v9 t0 T0 m0 d0 (p / u) by rw [← hV]; exact PIo.box (N0_8.out) (HP_x_8.out) rfl rfl (.bool t2) (.slice T2 m2 d2))
    have N1_9 := hJ (show PI v9 t1 T1 m1 d1 (r / v) by rw [← hV]; exact PIo.box (N1_8.out) (HP_x_8.out) rfl rfl (.bool t2) (.slice T2 m2 d2))
    have N2_9 := hJ (show PI v9 t2 T2 m2 d2 (outV ((p / u) * (r / v))) by rw [← hV]; exact PIo.box (N2_8.out) (HP_x_8.out) rfl rfl (.bool t2) (.slice T2 m2 d2))
    have HP_b_9 := hJ (show P2 33 v9 gb (.bool t1) (.slice T1 m1 d1) by rw [← hV]; exact HP_b_8.out.far2 (show gb ≠ gx from HN_b_x.out) (.bool t2) (.slice T2 m2 d2))
    have HP_x_9 := hJ (show P2 33 v9 gx (.bool t2) (.slice T2 m2 d2) by rw [← hV]; exact HP_x_8.out.all (.bool t2) (.slice T2 m2 d2))
    clear hHeld
    refine hK.out _ _ (HS4.out _ HX_9.out) (fun hHeld => ?_)
    clear hK K hV z9 z0 z1 y0 y1 HX_8 a_8 b_8 f1_8 f2_8 N0_8 N1_8 N2_8 HP_b_8 HP_x_8
    try simp only [PT]
    refine tq 15 ?_
    try simp only [PT]
    refine wpAnyH_done (by kernel_rfl) ?_ _
    clear hHeld
    go_wp2_with fail
    go_meet
    exact ⟨gx, t2, T2, m2, d2, rfl, rfl, HP_x_9.out, N2_9.out, HX_9.out⟩
    refine .cons rfl (fun K hK => ?_) .nil
    go_simp
    have HB_10 := hJ ((Below.refl v2.heap.size v2).alloc (Nat.le_refl _) (.cells #[.bool false, .slice none 0 0] 33))
    have HP_x_10 := hJ (P2.lit v2 33 (.bool false) (.slice none 0 0))
    obtain ⟨v10, hV⟩ := nmz (World.alloc v2 (.cells #[.bool false, .slice none 0 0] 33))
    obtain ⟨gx, hg⟩ := nmz (v2.heap.size)
    rw [hV] at HB_10 HP_x_10  ⊢
    rw [hg] at HP_x_10  ⊢
    have HG_x := hJ (show x3.heap.size ≤ gx by rw [← hg]; exact HX_2.out.size)
    have HX_10 := hJ (bt HX_2.out HB_10.out)
    have a_10 := hJ ((a_2.out).new HB_10.out)
    have b_10 := hJ ((b_2.out).new HB_10.out)
    have f1_10 := hJ (PIo.new f1_2.out HB_10.out)
    have f2_10 := hJ (PIo.new f2_2.out HB_10.out)
    have N0_10 := hJ (PIo.new N0_2.out HB_10.out)
    have N1_10 := hJ (PIo.new N1_2.out HB_10.out)
    clear hHeld
    refine hK.out _ _ (HS4.out _ HX_10.out) (fun hHeld => ?_)
    clear hK K hV hg HB_10 HX_2 a_2 b_2 f1_2 f2_2 N0_2 N1_2
    try simp only [PT]
    refine wpAnyH_ready (rs := [8]) (by kernel_rfl) (by simp) ?_
    refine .cons rfl (fun K hK => ?_) .nil
    go_simp
    have HB_11 := hJ ((Below.refl v10.heap.size v10).alloc (Nat.le_refl _) (.cells #[.bool t1, .slice T1 m1 d1] 33))
    have HP_b_11 := hJ (P2.lit v10 33 (.bool t1) (.slice T1 m1 d1))
    have Y_11 := hJ (pel_lit1 (t := 33) N1_10.out HGF.out.2.2.2.1)
    obtain ⟨v11, hV⟩ := nmz (World.alloc v10 (.cells #[.bool t1, .slice T1 m1 d1] 33))
    obtain ⟨gb, hg⟩ := nmz (v10.heap.size)
    rw [hV] at HB_11 HP_b_11 Y_11 ⊢
    rw [hg] at HP_b_11 Y_11 ⊢
    have HG_b := hJ (show x3.heap.size ≤ gb by rw [← hg]; exact HX_10.out.size)
    have HN_x_b := hJ (show gx ≠ gb by have := HP_x_10.out.lt; rw [hg] at this; omega)
    have HX_11 := hJ (bt HX_10.out HB_11.out)
    have a_11 := hJ ((a_10.out).new HB_11.out)
    have b_11 := hJ ((b_10.out).new HB_11.out)
    have f1_11 := hJ (PIo.new f1_10.out HB_11.out)
    have f2_11 := hJ (PIo.new f2_10.out HB_11.out)
    have N0_11 := hJ (PIo.new N0_10.out HB_11.out)
    have N1_11 := hJ (PIo.new N1_10.out HB_11.out)
    have HP_x_11 := hJ (HP_x_10.out.new HB_11.out)
    clear hHeld
    refine hK.out _ _ (HS4.out _ HX_11.out) (fun hHeld => ?_)
    clear hK K hV hg HB_11 HX_10 a_10 b_10 f1_10 f2_10 N0_10 N1_10 HP_x_10
    try simp only [PT]
    refine wpAnyH_ready (rs := [9]) (by kernel_rfl) (by simp) ?_
    refine .cons rfl (fun K hK => ?_) .nil
    go_simp
    go_at_call 109
    refine (fproduct_any [(r / v)] (p / u) t0 T0 m0 d0 gb 1 v11 N0_11.out HGF.out.2.2.1 Y_11.out HP_b_11.out.lt rfl (by decide)).mono ?_
    rw [(pv_one ((p / u)) ((r / v))).1, (pv_one ((p / u)) ((r / v))).2]
    rintro e v12 ⟨t2, T2, m2, d2, rfl, hr, hk⟩
    have N2_12 := hJ (hr)
    have HB_12 := hJ hk
    go_wp2_with fail
    clear Y_11
    have HX_12 := hJ (bt HX_11.out HB_12.out)
    have a_12 := hJ ((a_11.out).new HB_12.out)
    have b_12 := hJ ((b_11.out).new HB_12.out)
    have f1_12 := hJ (PIo.new f1_11.out HB_12.out)
    have f2_12 := hJ (PIo.new f2_11.out HB_12.out)
    have N0_12 := hJ (PIo.new N0_11.out HB_12.out)
    have N1_12 := hJ (PIo.new N1_11.out HB_12.out)
    have HP_x_12 := hJ (HP_x_11.out.new HB_12.out)
    have HP_b_12 := hJ (HP_b_11.out.new HB_12.out)
    clear hHeld
    refine hK.out _ _ (HS4.out _ HX_12.out) (fun hHeld => ?_)
    clear hK K hk HB_12 hr HX_11 a_11 b_11 f1_11 f2_11 N0_11 N1_11 HP_x_11 HP_b_11
    try simp only [PT]
    refine tq 10 ?_
    try simp only [PT]
    refine tq 11 ?_
    try simp only [PT]
    refine tq 12 ?_
    try simp only [PT]
    refine wpAnyH_ready (rs := [14]) (by kernel_rfl) (by simp) ?_
    refine .cons rfl (fun K hK => ?_) .nil
    obtain ⟨z0, z1⟩ := HP_x_12.out.cells
    have y0 := HP_x_12.out.frozen 0
    have y1 := HP_x_12.out.frozen 1
    have z9 := HP_x_12.out.lt
    go_simp
    obtain ⟨v13, hV⟩ := nmz (World.setCell (World.setCell v12 ⟨gx, 0, none⟩ (.bool t2)) ⟨gx, 1, none⟩ (.slice T2 m2 d2))
    rw [hV]
    have HX_13 := hJ (show Below x3.heap.size x3 v13 by rw [← hV]; exact below_box HX_12.out (HG_x.out) _ _)
    have a_13 := hJ (show PF v13 sa Aa na ca sb Ab nb cb p q by rw [← hV]; exact PF.box (a_12.out) (HP_x_12.out) (.bool t2) (.slice T2 m2 d2))
    have b_13 := hJ (show PF v13 sd Ad nd cd se Ae ne ce r s by rw [← hV]; exact PF.box (b_12.out) (HP_x_12.out) (.bool t2) (.slice T2 m2 d2))
    have f1_13 := hJ (show PI v13 s3a A3a n3a c3a (u) by rw [← hV]; exact PIo.box (f1_12.out) (HP_x_12.out) rfl rfl (.bool t2) (.slice T2 m2 d2))
    have f2_13 := hJ (show PI v13 s3b A3b n3b c3b (v) by rw [← hV]; exact PIo.box (f2_12.out) (HP_x_12.out) rfl rfl (.bool t2) (.slice T2 m2 d2))
    have N0_13 := hJ (show PI v13 t0 T0 m0 d0 (p / u) by rw [← hV]; exact PIo.box (N0_12.out) (HP_x_12.out) rfl rfl (.bool t2) (.slice T2 m2 d2))
    have N1_13 := hJ (show PI v13 t1 T1 m1 d1 (r / v) by rw [← hV]; exact PIo.box (N1_12.out) (HP_x_12.out) rfl rfl (.bool t2) (.slice T2 m2 d2))
    have N2_13 := hJ (show PI v13 t2 T2 m2 d2 (outV ((p / u) * (r / v))) by rw [← hV]; exact PIo.box (N2_12.out) (HP_x_12.out) rfl rfl (.bool t2) (.slice T2 m2 d2))
    have HP_b_13 := hJ (show P2 33 v13 gb (.bool t1) (.slice T1 m1 d1) by rw [← hV]; exact HP_b_12.out.far2 (show gb ≠ gx from HN_x_b.out.symm) (.bool t2) (.slice T2 m2 d2))
    have HP_x_13 := hJ (show P2 33 v13 gx (.bool t2) (.slice T2 m2 d2) by rw [← hV]; exact HP_x_12.out.all (.bool t2) (.slice T2 m2 d2))
    clear hHeld
    refine hK.out _ _ (HS4.out _ HX_13.out) (fun hHeld => ?_)
    clear hK K hV z9 z0 z1 y0 y1 HX_12 a_12 b_12 f1_12 f2_12 N0_12 N1_12 N2_12 HP_b_12 HP_x_12
    try simp only [PT]
    refine tq 15 ?_
    try simp only [PT]
    refine wpAnyH_done (by kernel_rfl) ?_ _
    clear hHeld
    go_wp2_with fail
    go_meet
    exact ⟨gx, t2, T2, m2, d2, rfl, rfl, HP_x_13.out, N2_13.out, HX_13.out⟩
    refine .cons rfl (fun K hK => ?_) .nil
    go_simp
    have HB_14 := hJ ((Below.refl v1.heap.size v1).alloc (Nat.le_refl _) (.cells #[.bool false, .slice none 0 0] 33))
    have HP_x_14 := hJ (P2.lit v1 33 (.bool false) (.slice none 0 0))
    obtain ⟨v14, hV⟩ := nmz (World.alloc v1 (.cells #[.bool false, .slice none 0 0] 33))
    obtain ⟨gx, hg⟩ := nmz (v1.heap.size)
    rw [hV] at HB_14 HP_x_14  ⊢
    rw [hg] at HP_x_14  ⊢
    have HG_x := hJ (show x3.heap.size ≤ gx by rw [← hg]; exact HX_1.out.size)
    have HX_14 := hJ (bt HX_1.out HB_14.out)
    have a_14 := hJ ((a_1.out).new HB_14.out)
    have b_14 := hJ ((b_1.out).new HB_14.out)
    have f1_14 := hJ (PIo.new f1_1.out HB_14.out)
    have f2_14 := hJ (PIo.new f2_1.out HB_14.out)
    have N0_14 := hJ (PIo.new N0_1.out HB_14.out)
    clear hHeld
    refine hK.out _ _ (HS4.out _ HX_14.out) (fun hHeld => ?_)
    clear hK K hV hg HB_14 HX_1 a_1 b_1 f1_1 f2_1 N0_1
    try simp only [PT]
    refine wpAnyH_ready (rs := [7]) (by kernel_rfl) (by simp) ?_
    refine .cons rfl (fun K hK => ?_) .nil
    go_simp
    go_at_call_of 102 (#[Value.agg #[.bool sd, .slice Ad nd cd], Value.agg #[.bool s3b, .slice A3b n3b c3b]])
    refine (fdivided_any r v sd s3b Ad A3b nd cd n3b c3b v14 ((b_14.out).1) (f2_14.out) (by omega) (by omega) HGF.out.2.1.1).mono ?_
    rintro e v15 ⟨t1, T1, m1, d1, rfl, hr, hk⟩
    have N1_15 := hJ (hr)
    have HB_15 := hJ hk
    go_wp2_with fail
    have HX_15 := hJ (bt HX_14.out HB_15.out)
    have a_15 := hJ ((a_14.out).new HB_15.out)
    have b_15 := hJ ((b_14.out).new HB_15.out)
    have f1_15 := hJ (PIo.new f1_14.out HB_15.out)
    have f2_15 := hJ (PIo.new f2_14.out HB_15.out)
    have N0_15 := hJ (PIo.new N0_14.out HB_15.out)
    have HP_x_15 := hJ (HP_x_14.out.new HB_15.out)
    clear hHeld
    refine hK.out _ _ (HS4.out _ HX_15.out) (fun hHeld => ?_)
    clear hK K hk HB_15 hr HX_14 a_14 b_14 f1_14 f2_14 N0_14 HP_x_14
    try simp only [PT]
    refine wpAnyH_ready (rs := [8]) (by kernel_rfl) (by simp) ?_
    refine .cons rfl (fun K hK => ?_) .nil
    go_simp
    have HB_16 := hJ ((Below.refl v15.heap.size v15).alloc (Nat.le_refl _) (.cells #[.bool t1, .slice T1 m1 d1] 33))
    have HP_b_16 := hJ (P2.lit v15 33 (.bool t1) (.slice T1 m1 d1))
    have Y_16 := hJ (pel_lit1 (t := 33) N1_15.out HGF.out.2.2.2.1)
    obtain ⟨v16, hV⟩ := nmz (World.alloc v15 (.cells #[.bool t1, .slice T1 m1 d1] 33))
    obtain ⟨gb, hg⟩ := nmz (v15.heap.size)
    rw [hV] at HB_16 HP_b_16 Y_16 ⊢
    rw [hg] at HP_b_16 Y_16 ⊢
    have HG_b := hJ (show x3.heap.size ≤ gb by rw [← hg]; exact HX_15.out.size)
    have HN_x_b := hJ (show gx ≠ gb by have := HP_x_15.out.lt; rw [hg] at this; omega)
    have HX_16 := hJ (bt HX_15.out HB_16.out)
    have a_16 := hJ ((a_15.out).new HB_16.out)
    have b_16 := hJ ((b_15.out).new HB_16.out)
    have f1_16 := hJ (PIo.new f1_15.out HB_16.out)
    have f2_16 := hJ (PIo.new f2_15.out HB_16.out)
    have N0_16 := hJ (PIo.new N0_15.out HB_16.out)
    have N1_16 := hJ (PIo.new N1_15.out HB_16.out)
    have HP_x_16 := hJ (HP_x_15.out.new HB_16.out)
    clear hHeld
    refine hK.out _ _ (HS4.out _ HX_16.out) (fun hHeld => ?_)
    clear hK K hV hg HB_16 HX_15 a_15 b_15 f1_15 f2_15 N0_15 N1_15 HP_x_15
    try simp only [PT]
    refine wpAnyH_ready (rs := [9]) (by kernel_rfl) (by simp) ?_
    refine .cons rfl (fun K hK => ?_) .nil
    go_simp
    go_at_call 109
    refine (fproduct_any [(r / v)] (p / u) t0 T0 m0 d0 gb 1 v16 N0_16.out HGF.out.2.2.1 Y_16.out HP_b_16.out.lt rfl (by decide)).mono ?_
    rw [(pv_one ((p / u)) ((r / v))).1, (pv_one ((p / u)) ((r / v))).2]
    rintro e v17 ⟨t2, T2, m2, d2, rfl, hr, hk⟩
    have N2_17 := hJ (hr)
    have HB_17 := hJ hk
    go_wp2_with fail
    clear Y_16
    have HX_17 := hJ (bt HX_16.out HB_17.out)
    have a_17 := hJ ((a_16.out).new HB_17.out)
    have b_17 := hJ ((b_16.out).new HB_17.out)
    have f1_17 := hJ (PIo.new f1_16.out HB_17.out)
    have f2_17 := hJ (PIo.new f2_16.out HB_17.out)
    have N0_17 := hJ (PIo.new N0_16.out HB_17.out)
    have N1_17 := hJ (PIo.new N1_16.out HB_17.out)
    have HP_x_17 := hJ (HP_x_16.out.new HB_17.out)
    have HP_b_17 := hJ (HP_b_16.out.new HB_17.out)
    clear hHeld
    refine hK.out _ _ (HS4.out _ HX_17.out) (fun hHeld => ?_)
    clear hK K hk HB_17 hr HX_16 a_16 b_16 f1_16 f2_16 N0_16 N1_16 HP_x_16 HP_b_16
    try simp only [PT]
    refine tq 10 ?_
    try simp only [PT]
    refine tq 11 ?_
    try simp only [PT]
    refine tq 12 ?_
    try simp only [PT]
    refine wpAnyH_ready (rs := [14]) (by kernel_rfl) (by simp) ?_
    refine .cons rfl (fun K hK => ?_) .nil
    obtain ⟨z0, z1⟩ := HP_x_17.out.cells
    have y0 := HP_x_17.out.frozen 0
    have y1 := HP_x_17.out.frozen 1
    have z9 := HP_x_17.out.lt
    go_simp
    obtain ⟨v18, hV⟩ := nmz (World.setCell (World.setCell v17 ⟨gx, 0, none⟩ (.bool t2)) ⟨gx, 1, none⟩ (.slice T2 m2 d2))
    rw [hV]
    have HX_18 := hJ (show Below x3.heap.size x3 v18 by rw [← hV]; exact below_box HX_17.out (HG_x.out) _ _)
    have a_18 := hJ (show PF v18 sa Aa na ca sb Ab nb cb p q by rw [← hV]; exact PF.box (a_17.out) (HP_x_17.out) (.bool t2) (.slice T2 m2 d2))
    have b_18 := hJ (show PF v18 sd Ad nd cd se Ae ne ce r s by rw [← hV]; exact PF.box (b_17.out) (HP_x_17.out) (.bool t2) (.slice T2 m2 d2))
    have f1_18 := hJ (show PI v18 s3a A3a n3a c3a (u) by rw [← hV]; exact PIo.box (f1_17.out) (HP_x_17.out) rfl rfl (.bool t2) (.slice T2 m2 d2))
    have f2_18 := hJ (show PI v18 s3b A3b n3b c3b (v) by rw [← hV]; exact PIo.box (f2_17.out) (HP_x_17.out) rfl rfl (.bool t2) (.slice T2 m2 d2))
    have N0_18 := hJ (show PI v18 t0 T0 m0 d0 (p / u) by rw [← hV]; exact PIo.box (N0_17.out) (HP_x_17.out) rfl rfl (.bool t2) (.slice T2 m2 d2))
    have N1_18 := hJ (show PI v18 t1 T1 m1 d1 (r / v) by rw [← hV]; exact PIo.box (N1_17.out) (HP_x_17.out) rfl rfl (.bool t2) (.slice T2 m2 d2))
    have N2_18 := hJ (show PI v18 t2 T2 m2 d2 (outV ((p / u) * (r / v))) by rw [← hV]; exact PIo.box (N2_17.out) (HP_x_17.out) rfl rfl (.bool t2) (.slice T2 m2 d2))
    have HP_b_18 := hJ (show P2 33 v18 gb (.bool t1) (.slice T1 m1 d1) by rw [← hV]; exact HP_b_17.out.far2 (show gb ≠ gx from HN_x_b.out.symm) (.bool t2) (.slice T2 m2 d2))
    have HP_x_18 := hJ (show P2 33 v18 gx (.bool t2) (.slice T2 m2 d2) by rw [← hV]; exact HP_x_17.out.all (.bool t2) (.slice T2 m2 d2))
    clear hHeld
    refine hK.out _ _ (HS4.out _ HX_18.out) (fun hHeld => ?_)
    clear hK K hV z9 z0 z1 y0 y1 HX_17 a_17 b_17 f1_17 f2_17 N0_17 N1_17 N2_17 HP_b_17 HP_x_17
    try simp only [PT]
    refine tq 15 ?_
    try simp only [PT]
    refine wpAnyH_done (by kernel_rfl) ?_ _
    clear hHeld
    go_wp2_with fail
    go_meet
    exact ⟨gx, t2, T2, m2, d2, rfl, rfl, HP_x_18.out, N2_18.out, HX_18.out⟩
    refine .cons rfl (fun K hK => ?_) .nil
    go_simp
    have HB_19 := hJ ((Below.refl v0.heap.size v0).alloc (Nat.le_refl _) (.cells #[.bool false, .slice none 0 0] 33))
    have HP_x_19 := hJ (P2.lit v0 33 (.bool false) (.slice none 0 0))
    obtain ⟨v19, hV⟩ := nmz (World.alloc v0 (.cells #[.bool false, .slice none 0 0] 33))
    obtain ⟨gx, hg⟩ := nmz (v0.heap.size)
    rw [hV] at HB_19 HP_x_19  ⊢
    rw [hg] at HP_x_19  ⊢
    have HG_x := hJ (show x3.heap.size ≤ gx by rw [← hg]; exact HX_0.out.size)
    have HX_19 := hJ (bt HX_0.out HB_19.out)
    have a_19 := hJ ((a_0.out).new HB_19.out)
    have b_19 := hJ ((b_0.out).new HB_19.out)
    have f1_19 := hJ (PIo.new f1_0.out HB_19.out)
    have f2_19 := hJ (PIo.new f2_0.out HB_19.out)
    clear hHeld
    refine hK.out _ _ (HS4.out _ HX_19.out) (fun hHeld => ?_)
    clear hK K hV hg HB_19 HX_0 a_0 b_0 f1_0 f2_0
    try simp only [PT]
    refine wpAnyH_ready (rs := [3]) (by kernel_rfl) (by simp) ?_
    refine .cons rfl (fun K hK => ?_) .nil
    go_simp
    go_at_call_of 102 (#[Value.agg #[.bool sa, .slice Aa na ca], Value.agg #[.bool s3a, .slice A3a n3a c3a]])
    refine (fdivided_any p u sa s3a Aa A3a na ca n3a c3a v19 ((a_19.out).1) (f1_19.out) (by omega) (by omega) HGF.out.1.1).mono ?_
    rintro e v20 ⟨t0, T0, m0, d0, rfl, hr, hk⟩
    have N0_20 := hJ (hr)
    have HB_20 := hJ hk
    go_wp2_with fail
    have HX_20 := hJ (bt HX_19.out HB_20.out)
    have a_20 := hJ ((a_19.out).new HB_20.out)
    have b_20 := hJ ((b_19.out).new HB_20.out)
    have f1_20 := hJ (PIo.new f1_19.out HB_20.out)
    have f2_20 := hJ (PIo.new f2_19.out HB_20.out)
    have HP_x_20 := hJ (HP_x_19.out.new HB_20.out)
    clear hHeld
    refine hK.out _ _ (HS4.out _ HX_20.out) (fun hHeld => ?_)
    clear hK K hk HB_20 hr HX_19 a_19 b_19 f1_19 f2_19 HP_x_19
    try simp only [PT]
    refine wpAnyH_ready (rs := [7]) (by kernel_rfl) (by simp) ?_
    refine .cons rfl (fun K hK => ?_) .nil
    go_simp
    go_at_call_of 102 (#[Value.agg #[.bool sd, .slice Ad nd cd], Value.agg #[.bool s3b, .slice A3b n3b c3b]])
    refine (fdivided_any r v sd s3b Ad A3b nd cd n3b c3b v20 ((b_20.out).1) (f2_20.out) (by omega) (by omega) HGF.out.2.1.1).mono ?_
    rintro e v21 ⟨t1, T1, m1, d1, rfl, hr, hk⟩
    have N1_21 := hJ (hr)
    have HB_21 := hJ hk
    go_wp2_with fail
    have HX_21 := hJ (bt HX_20.out HB_21.out)
    have a_21 := hJ ((a_20.out).new HB_21.out)
    have b_21 := hJ ((b_20.out).new HB_21.out)
    have f1_21 := hJ (PIo.new f1_20.out HB_21.out)
    have f2_21 := hJ (PIo.new f2_20.out HB_21.out)
    have N0_21 := hJ (PIo.new N0_20.out HB_21.out)
    have HP_x_21 := hJ (HP_x_20.out.new HB_21.out)
    clear hHeld
    refine hK.out _ _ (HS4.out _ HX_21.out) (fun hHeld => ?_)
    clear hK K hk HB_21 hr HX_20 a_20 b_20 f1_20 f2_20 N0_20 HP_x_20
    try simp only [PT]
    refine wpAnyH_ready (rs := [8]) (by kernel_rfl) (by simp) ?_
    refine .cons rfl (fun K hK => ?_) .nil
    go_simp
    have HB_22 := hJ ((Below.refl v21.heap.size v21).alloc (Nat.le_refl _) (.cells #[.bool t1, .slice T1 m1 d1] 33))
    have HP_b_22 := hJ (P2.lit v21 33 (.bool t1) (.slice T1 m1 d1))
    have Y_22 := hJ (pel_lit1 (t := 33) N1_21.out HGF.out.2.2.2.1)
    obtain ⟨v22, hV⟩ := nmz (World.alloc v21 (.cells #[.bool t1, .slice T1 m1 d1] 33))
    obtain ⟨gb, hg⟩ := nmz (v21.heap.size)
    rw [hV] at HB_22 HP_b_22 Y_22 ⊢
    rw [hg] at HP_b_22 Y_22 ⊢
    have HG_b := hJ (show x3.heap.size ≤ gb by rw [← hg]; exact HX_21.out.size)
    have HN_x_b := hJ (show gx ≠ gb by have := HP_x_21.out.lt; rw [hg] at this; omega)
    have HX_22 := hJ (bt HX_21.out HB_22.out)
    have a_22 := hJ ((a_21.out).new HB_22.out)
    have b_22 := hJ ((b_21.out).new HB_22.out)
    have f1_22 := hJ (PIo.new f1_21.out HB_22.out)
    have f2_22 := hJ (PIo.new f2_21.out HB_22.out)
    have N0_22 := hJ (PIo.new N0_21.out HB_22.out)
    have N1_22 := hJ (PIo.new N1_21.out HB_22.out)
    have HP_x_22 := hJ (HP_x_21.out.new HB_22.out)
    clear hHeld
    refine hK.out _ _ (HS4.out _ HX_22.out) (fun hHeld => ?_)
    clear hK K hV hg HB_22 HX_21 a_21 b_21 f1_21 f2_21 N0_21 N1_21 HP_x_21
    try simp only [PT]
    refine wpAnyH_ready (rs := [9]) (by kernel_rfl) (by simp) ?_
    refine .cons rfl (fun K hK => ?_) .nil
    go_simp
    go_at_call 109
    refine (fproduct_any [(r / v)] (p / u) t0 T0 m0 d0 gb 1 v22 N0_22.out HGF.out.2.2.1 Y_22.out HP_b_22.out.lt rfl (by decide)).mono ?_
    rw [(pv_one ((p / u)) ((r / v))).1, (pv_one ((p / u)) ((r / v))).2]
    rintro e v23 ⟨t2, T2, m2, d2, rfl, hr, hk⟩
    have N2_23 := hJ (hr)
    have HB_23 := hJ hk
    go_wp2_with fail
    clear Y_22
    have HX_23 := hJ (bt HX_22.out HB_23.out)
    have a_23 := hJ ((a_22.out).new HB_23.out)
    have b_23 := hJ ((b_22.out).new HB_23.out)
    have f1_23 := hJ (PIo.new f1_22.out HB_23.out)
    have f2_23 := hJ (PIo.new f2_22.out HB_23.out)
    have N0_23 := hJ (PIo.new N0_22.out HB_23.out)
    have N1_23 := hJ (PIo.new N1_22.out HB_23.out)
    have HP_x_23 := hJ (HP_x_22.out.new HB_23.out)
    have HP_b_23 := hJ (HP_b_22.out.new HB_23.out)
    clear hHeld
    refine hK.out _ _ (HS4.out _ HX_23.out) (fun hHeld => ?_)
    clear hK K hk HB_23 hr HX_22 a_22 b_22 f1_22 f2_22 N0_22 N1_22 HP_x_22 HP_b_22
    try simp only [PT]
    refine tq 10 ?_
    try simp only [PT]
    refine tq 11 ?_
    try simp only [PT]
    refine tq 12 ?_
    try simp only [PT]
    refine wpAnyH_ready (rs := [14]) (by kernel_rfl) (by simp) ?_
    refine .cons rfl (fun K hK => ?_) .nil
    obtain ⟨z0, z1⟩ := HP_x_23.out.cells
    have y0 := HP_x_23.out.frozen 0
    have y1 := HP_x_23.out.frozen 1
    have z9 := HP_x_23.out.lt
    go_simp
    obtain ⟨v24, hV⟩ := nmz (World.setCell (World.setCell v23 ⟨gx, 0, none⟩ (.bool t2)) ⟨gx, 1, none⟩ (.slice T2 m2 d2))
    rw [hV]
    have HX_24 := hJ (show Below x3.heap.size x3 v24 by rw [← hV]; exact below_box HX_23.out (HG_x.out) _ _)
    have a_24 := hJ (show PF v24 sa Aa na ca sb Ab nb cb p q by rw [← hV]; exact PF.box (a_23.out) (HP_x_23.out) (.bool t2) (.slice T2 m2 d2))
    have b_24 := hJ (show PF v24 sd Ad nd cd se Ae ne ce r s by rw [← hV]; exact PF.box (b_23.out) (HP_x_23.out) (.bool t2) (.slice T2 m2 d2))
    have f1_24 := hJ (show PI v24 s3a A3a n3a c3a (u) by rw [← hV]; exact PIo.box (f1_23.out) (HP_x_23.out) rfl rfl (.bool t2) (.slice T2 m2 d2))
    have f2_24 := hJ (show PI v24 s3b A3b n3b c3b (v) by rw [← hV]; exact PIo.box (f2_23.out) (HP_x_23.out) rfl rfl (.bool t2) (.slice T2 m2 d2))
    have N0_24 := hJ (show PI v24 t0 T0 m0 d0 (p / u) by rw [← hV]; exact PIo.box (N0_23.out) (HP_x_23.out) rfl rfl (.bool t2) (.slice T2 m2 d2))
    have N1_24 := hJ (show PI v24 t1 T1 m1 d1 (r / v) by rw [← hV]; exact PIo.box (N1_23.out) (HP_x_23.out) rfl rfl (.bool t2) (.slice T2 m2 d2))
    have N2_24 := hJ (show PI v24 t2 T2 m2 d2 (outV ((p / u) * (r / v))) by rw [← hV]; exact PIo.box (N2_23.out) (HP_x_23.out) rfl rfl (.bool t2) (.slice T2 m2 d2))
    have HP_b_24 := hJ (show P2 33 v24 gb (.bool t1) (.slice T1 m1 d1) by rw [← hV]; exact HP_b_23.out.far2 (show gb ≠ gx from HN_x_b.out.symm) (.bool t2) (.slice T2 m2 d2))
    have HP_x_24 := hJ (show P2 33 v24 gx (.bool t2) (.slice T2 m2 d2) by rw [← hV]; exact HP_x_23.out.all (.bool t2) (.slice T2 m2 d2))
    clear hHeld
    refine hK.out _ _ (HS4.out _ HX_24.out) (fun hHeld => ?_)
    clear hK K hV z9 z0 z1 y0 y1 HX_23 a_23 b_23 f1_23 f2_23 N0_23 N1_23 N2_23 HP_b_23 HP_x_23
    try simp only [PT]
    refine tq 15 ?_
    try simp only [PT]
    refine wpAnyH_done (by kernel_rfl) ?_ _
    clear hHeld
    go_wp2_with fail
    go_meet
    exact ⟨gx, t2, T2, m2, d2, rfl, rfl, HP_x_24.out, N2_24.out, HX_24.out⟩
   case rest =>
    obtain ⟨G4, s4, A4, n4, c4, rfl, rfl, hq1, hr1, hbx⟩ := hcut
    have HQ4 := hJ hq1
    have HR4 := hJ hr1
    have HB4 := hJ hbx
    obtain ⟨x4, rfl⟩ := nm_world hbx
    clear hq1 hr1 hbx HS4 HXX4
    have hn4 : n4 ≤ 512 := plim HR4.out (outV_lim _)
    have HQa_4 := hJ (HQa_3.out.new HB4.out)
    have HRa_4 := hJ (HRa_3.out.new HB4.out)
    have HQd_4 := hJ (HQd_3.out.new HB4.out)
    have HRd_4 := hJ (HRd_3.out.new HB4.out)
    have HQz_4 := hJ (HQz_3.out.new HB4.out)
    have HRz_4 := hJ (HRz_3.out.new HB4.out)
    have HQ2a_4 := hJ (HQ2a_3.out.new HB4.out)
    have HR2a_4 := hJ (PIo.new HR2a_3.out HB4.out)
    have HQ2b_4 := hJ (HQ2b_3.out.new HB4.out)
    have HR2b_4 := hJ (PIo.new HR2b_3.out HB4.out)
    have HQ3a_4 := hJ (HQ3a.out.new HB4.out)
    have HR3a_4 := hJ (PIo.new HR3a.out HB4.out)
    have HQ3b_4 := hJ (HQ3b.out.new HB4.out)
    have HR3b_4 := hJ (PIo.new HR3b.out HB4.out)
    have HW_4 := hJ (bt HW_3.out HB4.out)
    clear HQa_3 HRa_3 HQd_3 HRd_3 HQz_3 HRz_3 HQ2a_3 HR2a_3 HQ2b_3 HR2b_3 HQ3a HR3a HQ3b HR3b HW_3 HB4
    have HS5 : Hid (∀ w', Below x4.heap.size x4 w' → (fun w' : World => w'.cell? ⟨G2, 0, none⟩ = some (.bool s2a) ∧ w'.cell? ⟨G2, 1, none⟩ = some (.slice A2a n2a c2a) ∧ w'.cell? ⟨H2, 0, none⟩ = some (.bool s2b) ∧ w'.cell? ⟨H2, 1, none⟩ = some (.slice A2b n2b c2b) ∧ w'.cell? ⟨G3, 0, none⟩ = some (.bool s3a) ∧ w'.cell? ⟨G3, 1, none⟩ = some (.slice A3a n3a c3a) ∧ w'.cell? ⟨H3, 0, none⟩ = some (.bool s3b) ∧ w'.cell? ⟨H3, 1, none⟩ = some (.slice A3b n3b c3b) ∧ Below x4.heap.size x4 w') w') := hJ (fun w' hb => ⟨(HQ2a_4.out.new hb).cells.1, (HQ2a_4.out.new hb).cells.2, (HQ2b_4.out.new hb).cells.1, (HQ2b_4.out.new hb).cells.2, (HQ3a_4.out.new hb).cells.1, (HQ3a_4.out.new hb).cells.2, (HQ3b_4.out.new hb).cells.1, (HQ3b_4.out.new hb).cells.2, hb⟩)
    have HXX5 := hJ (Below.refl x4.heap.size x4)
    go_upto_region 4 with fail
    go_cut [12, 13] (fun tp tq wx => ∃ (G : Nat) (s5 : Bool) (A5 : Option Addr) (n5 c5 : Nat), tp = .pointer (some ⟨G, 0, none⟩) ∧ tq = .int .i64 (outC ((q / v) * (s / u))) ∧ P2 33 wx G (.bool s5) (.slice A5 n5 c5) ∧ PI wx s5 A5 n5 c5 (outV ((q / v) * (s / u))) ∧ Below x4.heap.size x4 wx)
    case first =>
     obtain ⟨v0, hv0⟩ := nmz (World.drew x4)
     have HD0 := hJ (show Below x4.heap.size x4 v0 by rw [← hv0]; exact (Below.refl _ _).drew)
     have HX_0 := hJ (bt HXX5.out HD0.out)
     have q_0 := hJ (PIo.new HR2a_4.out HD0.out)
     have s_0 := hJ (PIo.new HR2b_4.out HD0.out)
     have f1_0 := hJ (PIo.new HR3a_4.out HD0.out)
     have f2_0 := hJ (PIo.new HR3b_4.out HD0.out)
     refine wp_region_held_drew (S := (fun w' : World => w'.cell? ⟨G2, 0, none⟩ = some (.bool s2a) ∧ w'.cell? ⟨G2, 1, none⟩ = some (.slice A2a n2a c2a) ∧ w'.cell? ⟨H2, 0, none⟩ = some (.bool s2b) ∧ w'.cell? ⟨H2, 1, none⟩ = some (.slice A2b n2b c2b) ∧ w'.cell? ⟨G3, 0, none⟩ = some (.bool s3a) ∧ w'.cell? ⟨G3, 1, none⟩ = some (.slice A3a n3a c3a) ∧ w'.cell? ⟨H3, 0, none⟩ = some (.bool s3b) ∧ w'.cell? ⟨H3, 1, none⟩ = some (.slice A3b n3b c3b) ∧ Below x4.heap.size x4 w')) (by kernel_rfl) ?_ (fun hHeld => ?_)
     ·rw [hv0]
      exact HS5.out _ HX_0.out
     rw [hv0] at hHeld ⊢
     clear hv0 HD0
     refine tq 0 ?_
     try simp only [PT]
     refine tq 1 ?_
     try simp only [PT]
     refine tq 3 ?_
     try simp only [PT]
     refine tq 4 ?_
     try simp only [PT]
     refine wpAnyH_ready (rs := [2, 11]) (by kernel_rfl) (by simp) ?_
     refine .cons rfl (fun K hK => ?_) ?_
     go_simp
     go_at_call_of 102 (#[Value.agg #[.bool s2a, .slice A2a n2a c2a], Value.agg #[.bool s3b, .slice A3b n3b c3b]])
     refine (fdivided_any q v s2a s3b A2a A3b n2a c2a n3b c3b v0 ((q_0.out)) (f2_0.out) (by omega) (by omega) HGF.out.2.1.1).mono ?_
     rintro e v1 ⟨t0, T0, m0, d0, rfl, hr, hk⟩
     have N0_1 := hJ (hr)
     have HB_1 := hJ hk
     go_wp2_with fail
     have HX_1 := hJ (bt HX_0.out HB_1.out)
     have q_1 := hJ (PIo.new q_0.out HB_1.out)
     have s_1 := hJ (PIo.new s_0.out HB_1.out)
     have f1_1 := hJ (PIo.new f1_0.out HB_1.out)
     have f2_1 := hJ (PIo.new f2_0.out HB_1.out)
     clear hHeld
     refine hK.out _ _ (HS5.out _ HX_1.out) (fun hHeld => ?_)
     clear hK K hk HB_1 hr HX_0 q_0 s_0 f1_0 f2_0
     try simp only [PT]
     refine wpAnyH_ready (rs := [5, 11]) (by kernel_rfl) (by simp) ?_
     refine .cons rfl (fun K hK => ?_) ?_
     go_simp
     go_at_call_of 102 (#[Value.agg #[.bool s2b, .slice A2b n2b c2b], Value.agg #[.bool s3a, .slice A3a n3a c3a]])
     refine (fdivided_any s u s2b s3a A2b A3a n2b c2b n3a c3a v1 ((s_1.out)) (f1_1.out) (by omega) (by omega) HGF.out.1.1).mono ?_
     rintro e v2 ⟨t1, T1, m1, d1, rfl, hr, hk⟩
     have N1_2 := hJ (hr)
     have HB_2 := hJ hk
     go_wp2_with fail
     have HX_2 := hJ (bt HX_1.out HB_2.out)
     have q_2 := hJ (PIo.new q_1.out HB_2.out)
     have s_2 := hJ (PIo.new s_1.out HB_2.out)
     have f1_2 := hJ (PIo.new f1_1.out HB_2.out)
     have f2_2 := hJ (PIo.new f2_1.out HB_2.out)
     have N0_2 := hJ (PIo.new N0_1.out HB_2.out)
     clear hHeld
     refine hK.out _ _ (HS5.out _ HX_2.out) (fun hHeld => ?_)
     clear hK K hk HB_2 hr HX_1 q_1 s_1 f1_1 f2_1 N0_1
     try simp only [PT]
     refine wpAnyH_ready (rs := [6, 11]) (by kernel_rfl) (by simp) ?_
     refine .cons rfl (fun K hK => ?_) ?_
     go_simp
     have HB_3 := hJ ((Below.refl v2.heap.size v2).alloc (Nat.le_refl _) (.cells #[.bool t1, .slice T1 m1 d1] 33))
     have HP_b_3 := hJ (P2.lit v2 33 (.bool t1) (.slice T1 m1 d1))
     have Y_3 := hJ (pel_lit1 (t := 33) N1_2.out HGF.out.2.2.2.2.2)
     obtain ⟨v3, hV⟩ := nmz (World.alloc v2 (.cells #[.bool t1, .slice T1 m1 d1] 33))
     obtain ⟨gb, hg⟩ := nmz (v2.heap.size)
     rw [hV] at HB_3 HP_b_3 Y_3 ⊢
     rw [hg] at HP_b_3 Y_3 ⊢
     have HG_b := hJ (show x4.heap.size ≤ gb by rw [← hg]; exact HX_2.out.size)
     have HX_3 := hJ (bt HX_2.out HB_3.out)
     have q_3 := hJ (PIo.new q_2.out HB_3.out)
     have s_3 := hJ (PIo.new s_2.out HB_3.out)
     have f1_3 := hJ (PIo.new f1_2.out HB_3.out)
     have f2_3 := hJ (PIo.new f2_2.out HB_3.out)
     have N0_3 := hJ (PIo.new N0_2.out HB_3.out)
     have N1_3 := hJ (PIo.new N1_2.out HB_3.out)
     clear hHeld
     refine hK.out _ _ (HS5.out _ HX_3.out) (fun hHeld => ?_)
     clear hK K hV hg HB_3 HX_2 q_2 s_2 f1_2 f2_2 N0_2 N1_2
     try simp only [PT]
     refine wpAnyH_ready (rs := [7, 11]) (by kernel_rfl) (by simp) ?_
     refine .cons rfl (fun K hK => ?_) ?_
     go_simp
     go_at_call 109
     refine (fproduct_any [(s / u)] (q / v) t0 T0 m0 d0 gb 1 v3 N0_3.out HGF.out.2.2.2.2.1 Y_3.out HP_b_3.out.lt rfl (by decide)).mono ?_
     rw [(pv_one ((q / v)) ((s / u))).1, (pv_one ((q / v)) ((s / u))).2]
     rintro e v4 ⟨t2, T2, m2, d2, rfl, hr, hk⟩
     have N2_4 := hJ (hr)
     have HB_4 := hJ hk
     go_wp2_with fail
     clear Y_3
     have HX_4 := hJ (bt HX_3.out HB_4.out)
     have q_4 := hJ (PIo.new q_3.out HB_4.out)
     have s_4 := hJ (PIo.new s_3.out HB_4.out)
     have f1_4 := hJ (PIo.new f1_3.out HB_4.out)
     have f2_4 := hJ (PIo.new f2_3.out HB_4.out)
     have N0_4 := hJ (PIo.new N0_3.out HB_4.out)
     have N1_4 := hJ (PIo.new N1_3.out HB_4.out)
     have HP_b_4 := hJ (HP_b_3.out.new HB_4.out)
     clear hHeld
     refine hK.out _ _ (HS5.out _ HX_4.out) (fun hHeld => ?_)
     clear hK K hk HB_4 hr HX_3 q_3 s_3 f1_3 f2_3 N0_3 N1_3 HP_b_3
     try simp only [PT]
     refine tq 8 ?_
     try simp only [PT]
     refine tq 9 ?_
     try simp only [PT]
     refine tq 10 ?_
     try simp only [PT]
     refine wpAnyH_ready (rs := [11]) (by kernel_rfl) (by simp) ?_
     refine .cons rfl (fun K hK => ?_) .nil
     go_simp
     have HB_5 := hJ ((Below.refl v4.heap.size v4).alloc (Nat.le_refl _) (.cells #[.bool false, .slice none 0 0] 33))
     have HP_x_5 := hJ (P2.lit v4 33 (.bool false) (.slice none 0 0))
     obtain ⟨v5, hV⟩ := nmz (World.alloc v4 (.cells #[.bool false, .slice none 0 0] 33))
     obtain ⟨gx, hg⟩ := nmz (v4.heap.size)
     rw [hV] at HB_5 HP_x_5  ⊢
     rw [hg] at HP_x_5  ⊢
     have HG_x := hJ (show x4.heap.size ≤ gx by rw [← hg]; exact HX_4.out.size)
     have HN_b_x := hJ (show gb ≠ gx by have := HP_b_4.out.lt; rw [hg] at this; omega)
     have HX_5 := hJ (bt HX_4.out HB_5.out)
     have q_5 := hJ (PIo.new q_4.out HB_5.out)
     have s_5 := hJ (PIo.new s_4.out HB_5.out)
     have f1_5 := hJ (PIo.new f1_4.out HB_5.out)
     have f2_5 := hJ (PIo.new f2_4.out HB_5.out)
     have N0_5 := hJ (PIo.new N0_4.out HB_5.out)
     have N1_5 := hJ (PIo.new N1_4.out HB_5.out)
     have N2_5 := hJ (PIo.new N2_4.out HB_5.out)
     have HP_b_5 := hJ (HP_b_4.out.new HB_5.out)
     clear hHeld
     refine hK.out _ _ (HS5.out _ HX_5.out) (fun hHeld => ?_)
     clear hK K hV hg HB_5 HX_4 q_4 s_4 f1_4 f2_4 N0_4 N1_4 N2_4 HP_b_4
     try simp only [PT]
     refine wpAnyH_ready (rs := [12]) (by kernel_rfl) (by simp) ?_
     refine .cons rfl (fun K hK => ?_) .nil
     obtain ⟨z0, z1⟩ := HP_x_5.out.cells
     have y0 := HP_x_5.out.frozen 0
     have y1 := HP_x_5.out.frozen 1
     have z9 := HP_x_5.out.lt
     go_simp
     obtain ⟨v6, hV⟩ := nmz (World.setCell (World.setCell v5 ⟨gx, 0, none⟩ (.bool t2)) ⟨gx, 1, none⟩ (.slice T2 m2 d2))
     rw [hV]
     have HX_6 := hJ (show Below x4.heap.size x4 v6 by rw [← hV]; exact below_box HX_5.out (HG_x.out) _ _)
     have q_6 := hJ (show PI v6 s2a A2a n2a c2a (q) by rw [← hV]; exact PIo.box (q_5.out) (HP_x_5.out) rfl rfl (.bool t2) (.slice T2 m2 d2))
     have s_6 := hJ (show PI v6 s2b A2b n2b c2b (s) by rw [← hV]; exact PIo.box (s_5.out) (HP_x_5.out) rfl rfl (.bool t2) (.slice T2 m2 d2))
     have f1_6 := hJ (show PI v6 s3a A3a n3a c3a (u) by rw [← hV]; exact PIo.box (f1_5.out) (HP_x_5.out) rfl rfl (.bool t2) (.slice T2 m2 d2))
     have f2_6 := hJ (show PI v6 s3b A3b n3b c3b (v) by rw [← hV]; exact PIo.box (f2_5.out) (HP_x_5.out) rfl rfl (.bool t2) (.slice T2 m2 d2))
     have N0_6 := hJ (show PI v6 t0 T0 m0 d0 (q / v) by rw [← hV]; exact PIo.box (N0_5.out) (HP_x_5.out) rfl rfl (.bool t2) (.slice T2 m2 d2))
     have N1_6 := hJ (show PI v6 t1 T1 m1 d1 (s / u) by rw [← hV]; exact PIo.box (N1_5.out) (HP_x_5.out) rfl rfl (.bool t2) (.slice T2 m2 d2))
     have N2_6 := hJ (show PI v6 t2 T2 m2 d2 (outV ((q / v) * (s / u))) by rw [← hV]; exact PIo.box (N2_5.out) (HP_x_5.out) rfl rfl (.bool t2) (.slice T2 m2 d2))
     have HP_b_6 := hJ (show P2 33 v6 gb (.bool t1) (.slice T1 m1 d1) by rw [← hV]; exact HP_b_5.out.far2 (show gb ≠ gx from HN_b_x.out) (.bool t2) (.slice T2 m2 d2))
     have HP_x_6 := hJ (show P2 33 v6 gx (.bool t2) (.slice T2 m2 d2) by rw [← hV]; exact HP_x_5.out.all (.bool t2) (.slice T2 m2 d2))
     clear hHeld
     refine hK.out _ _ (HS5.out _ HX_6.out) (fun hHeld => ?_)
     clear hK K hV z9 z0 z1 y0 y1 HX_5 q_5 s_5 f1_5 f2_5 N0_5 N1_5 N2_5 HP_b_5 HP_x_5
     try simp only [PT]
     refine tq 13 ?_
     try simp only [PT]
     refine wpAnyH_done (by kernel_rfl) ?_ _
     clear hHeld
     go_wp2_with fail
     go_meet
     exact ⟨gx, t2, T2, m2, d2, rfl, rfl, HP_x_6.out, N2_6.out, HX_6.out⟩
     refine .cons rfl (fun K hK => ?_) .nil
     go_simp
     have HB_7 := hJ ((Below.refl v3.heap.size v3).alloc (Nat.le_refl _) (.cells #[.bool false, .slice none 0 0] 33))
     have HP_x_7 := hJ (P2.lit v3 33 (.bool false) (.slice none 0 0))
     obtain ⟨v7, hV⟩ := nmz (World.alloc v3 (.cells #[.bool false, .slice none 0 0] 33))
     obtain ⟨gx, hg⟩ := nmz (v3.heap.size)
     rw [hV] at HB_7 HP_x_7  ⊢
     rw [hg] at HP_x_7  ⊢
     have HG_x := hJ (show x4.heap.size ≤ gx by rw [← hg]; exact HX_3.out.size)
     have HN_b_x := hJ (show gb ≠ gx by have := HP_b_3.out.lt; rw [hg] at this; omega)
     have HX_7 := hJ (bt HX_3.out HB_7.out)
     have q_7 := hJ (PIo.new q_3.out HB_7.out)
     have s_7 := hJ (PIo.new s_3.out HB_7.out)
     have f1_7 := hJ (PIo.new f1_3.out HB_7.out)
     have f2_7 := hJ (PIo.new f2_3.out HB_7.out)
     have N0_7 := hJ (PIo.new N0_3.out HB_7.out)
     have N1_7 := hJ (PIo.new N1_3.out HB_7.out)
     have Y_7 := hJ ((Y_3.out).new HB_7.out)
     have HP_b_7 := hJ (HP_b_3.out.new HB_7.out)
     clear hHeld
     refine hK.out _ _ (HS5.out _ HX_7.out) (fun hHeld => ?_)
     clear hK K hV hg HB_7 HX_3 q_3 s_3 f1_3 f2_3 N0_3 N1_3 Y_3 HP_b_3
     try simp only [PT]
     refine wpAnyH_ready (rs := [7]) (by kernel_rfl) (by simp) ?_
     refine .cons rfl (fun K hK => ?_) .nil
     go_simp
     go_at_call 109
     refine (fproduct_any [(s / u)] (q / v) t0 T0 m0 d0 gb 1 v7 N0_7.out HGF.out.2.2.2.2.1 Y_7.out HP_b_7.out.lt rfl (by decide)).mono ?_
     rw [(pv_one ((q / v)) ((s / u))).1, (pv_one ((q / v)) ((s / u))).2]
     rintro e v8 ⟨t2, T2, m2, d2, rfl, hr, hk⟩
     have N2_8 := hJ (hr)
     have HB_8 := hJ hk
     go_wp2_with fail
     clear Y_7
     have HX_8 := hJ (bt HX_7.out HB_8.out)
     have q_8 := hJ (PIo.new q_7.out HB_8.out)
     have s_8 := hJ (PIo.new s_7.out HB_8.out)
     have f1_8 := hJ (PIo.new f1_7.out HB_8.out)
     have f2_8 := hJ (PIo.new f2_7.out HB_8.out)
     have N0_8 := hJ (PIo.new N0_7.out HB_8.out)
     have N1_8 := hJ (PIo.new N1_7.out HB_8.out)
     have HP_b_8 := hJ (HP_b_7.out.new HB_8.out)
     have HP_x_8 := hJ (HP_x_7.out.new HB_8.out)
     clear hHeld
     refine hK.out _ _ (HS5.out _ HX_8.out) (fun hHeld => ?_)
     clear hK K hk HB_8 hr HX_7 q_7 s_7 f1_7 f2_7 N0_7 N1_7 HP_b_7 HP_x_7
     try simp only [PT]
     refine tq 8 ?_
     try simp only [PT]
     refine tq 9 ?_
     try simp only [PT]
     refine tq 10 ?_
     try simp only [PT]
     refine wpAnyH_ready (rs := [12]) (by kernel_rfl) (by simp) ?_
     refine .cons rfl (fun K hK => ?_) .nil
     obtain ⟨z0, z1⟩ := HP_x_8.out.cells
     have y0 := HP_x_8.out.frozen 0
     have y1 := HP_x_8.out.frozen 1
     have z9 := HP_x_8.out.lt
     go_simp
     obtain ⟨v9, hV⟩ := nmz (World.setCell (World.setCell v8 ⟨gx, 0, none⟩ (.bool t2)) ⟨gx, 1, none⟩ (.slice T2 m2 d2))
     rw [hV]
     have HX_9 := hJ (show Below x4.heap.size x4 v9 by rw [← hV]; exact below_box HX_8.out (HG_x.out) _ _)
     have q_9 := hJ (show PI v9 s2a A2a n2a c2a (q) by rw [← hV]; exact PIo.box (q_8.out) (HP_x_8.out) rfl rfl (.bool t2) (.slice T2 m2 d2))
     have s_9 := hJ (show PI v9 s2b A2b n2b c2b (s) by rw [← hV]; exact PIo.box (s_8.out) (HP_x_8.out) rfl rfl (.bool t2) (.slice T2 m2 d2))
     have f1_9 := hJ (show PI v9 s3a A3a n3a c3a (u) by rw [← hV]; exact PIo.box (f1_8.out) (HP_x_8.out) rfl rfl (.bool t2) (.slice T2 m2 d2))
     have f2_9 := hJ (show PI v9 s3b A3b n3b c3b (v) by rw [← hV]; exact PIo.box (f2_8.out) (HP_x_8.out) rfl rfl (.bool t2) (.slice T2 m2 d2))
     have N0_9 := hJ (show PI v9 t0 T0 m0 d0 (q / v) by rw [← hV]; exact PIo.box (N0_8.out) (HP_x_8.out) rfl rfl (.bool t2) (.slice T2 m2 d2))
     have N1_9 := hJ (show PI v9 t1 T1 m1 d1 (s / u) by rw [← hV]; exact PIo.box (N1_8.out) (HP_x_8.out) rfl rfl (.bool t2) (.slice T2 m2 d2))
     have N2_9 := hJ (show PI v9 t2 T2 m2 d2 (outV ((q / v) * (s / u))) by rw [← hV]; exact PIo.box (N2_8.out) (HP_x_8.out) rfl rfl (.bool t2) (.slice T2 m2 d2))
     have HP_b_9 := hJ (show P2 33 v9 gb (.bool t1) (.slice T1 m1 d1) by rw [← hV]; exact HP_b_8.out.far2 (show gb ≠ gx from HN_b_x.out) (.bool t2) (.slice T2 m2 d2))
     have HP_x_9 := hJ (show P2 33 v9 gx (.bool t2) (.slice T2 m2 d2) by rw [← hV]; exact HP_x_8.out.all (.bool t2) (.slice T2 m2 d2))
     clear hHeld
     refine hK.out _ _ (HS5.out _ HX_9.out) (fun hHeld => ?_)
     clear hK K hV z9 z0 z1 y0 y1 HX_8 q_8 s_8 f1_8 f2_8 N0_8 N1_8 N2_8 HP_b_8 HP_x_8
     try simp only [PT]
     refine tq 13 ?_
     try simp only [PT]
     refine wpAnyH_done (by kernel_rfl) ?_ _
     clear hHeld
     go_wp2_with fail
     go_meet
     exact ⟨gx, t2, T2, m2, d2, rfl, rfl, HP_x_9.out, N2_9.out, HX_9.out⟩
     refine .cons rfl (fun K hK => ?_) .nil
     go_simp
     have HB_10 := hJ ((Below.refl v2.heap.size v2).alloc (Nat.le_refl _) (.cells #[.bool false, .slice none 0 0] 33))
     have HP_x_10 := hJ (P2.lit v2 33 (.bool false) (.slice none 0 0))
     obtain ⟨v10, hV⟩ := nmz (World.alloc v2 (.cells #[.bool false, .slice none 0 0] 33))
     obtain ⟨gx, hg⟩ := nmz (v2.heap.size)
     rw [hV] at HB_10 HP_x_10  ⊢
     rw [hg] at HP_x_10  ⊢
     have HG_x := hJ (show x4.heap.size ≤ gx by rw [← hg]; exact HX_2.out.size)
     have HX_10 := hJ (bt HX_2.out HB_10.out)
     have q_10 := hJ (PIo.new q_2.out HB_10.out)
     have s_10 := hJ (PIo.new s_2.out HB_10.out)
     have f1_10 := hJ (PIo.new f1_2.out HB_10.out)
     have f2_10 := hJ (PIo.new f2_2.out HB_10.out)
     have N0_10 := hJ (PIo.new N0_2.out HB_10.out)
     have N1_10 := hJ (PIo.new N1_2.out HB_10.out)
     clear hHeld
     refine hK.out _ _ (HS5.out _ HX_10.out) (fun hHeld => ?_)
     clear hK K hV hg HB_10 HX_2 q_2 s_2 f1_2 f2_2 N0_2 N1_2
     try simp only [PT]
     refine wpAnyH_ready (rs := [6]) (by kernel_rfl) (by simp) ?_
     refine .cons rfl (fun K hK => ?_) .nil
     go_simp
     have HB_11 := hJ ((Below.refl v10.heap.size v10).alloc (Nat.le_refl _) (.cells #[.bool t1, .slice T1 m1 d1] 33))
     have HP_b_11 := hJ (P2.lit v10 33 (.bool t1) (.slice T1 m1 d1))
     have Y_11 := hJ (pel_lit1 (t := 33) N1_10.out HGF.out.2.2.2.2.2)
     obtain ⟨v11, hV⟩ := nmz (World.alloc v10 (.cells #[.bool t1, .slice T1 m1 d1] 33))
     obtain ⟨gb, hg⟩ := nmz (v10.heap.size)
     rw [hV] at HB_11 HP_b_11 Y_11 ⊢
     rw [hg] at HP_b_11 Y_11 ⊢
     have HG_b := hJ (show x4.heap.size ≤ gb by rw [← hg]; exact HX_10.out.size)
     have HN_x_b := hJ (show gx ≠ gb by have := HP_x_10.out.lt; rw [hg] at this; omega)
     have HX_11 := hJ (bt HX_10.out HB_11.out)
     have q_11 := hJ (PIo.new q_10.out HB_11.out)
     have s_11 := hJ (PIo.new s_10.out HB_11.out)
     have f1_11 := hJ (PIo.new f1_10.out HB_11.out)
     have f2_11 := hJ (PIo.new f2_10.out HB_11.out)
     have N0_11 := hJ (PIo.new N0_10.out HB_11.out)
     have N1_11 := hJ (PIo.new N1_10.out HB_11.out)
     have HP_x_11 := hJ (HP_x_10.out.new HB_11.out)
     clear hHeld
     refine hK.out _ _ (HS5.out _ HX_11.out) (fun hHeld => ?_)
     clear hK K hV hg HB_11 HX_10 q_10 s_10 f1_10 f2_10 N0_10 N1_10 HP_x_10
     try simp only [PT]
     refine wpAnyH_ready (rs := [7]) (by kernel_rfl) (by simp) ?_
     refine .cons rfl (fun K hK => ?_) .nil
     go_simp
     go_at_call 109
     refine (fproduct_any [(s / u)] (q / v) t0 T0 m0 d0 gb 1 v11 N0_11.out HGF.out.2.2.2.2.1 Y_11.out HP_b_11.out.lt rfl (by decide)).mono ?_
     rw [(pv_one ((q / v)) ((s / u))).1, (pv_one ((q / v)) ((s / u))).2]
     rintro e v12 ⟨t2, T2, m2, d2, rfl, hr, hk⟩
     have N2_12 := hJ (hr)
     have HB_12 := hJ hk
     go_wp2_with fail
     clear Y_11
     have HX_12 := hJ (bt HX_11.out HB_12.out)
     have q_12 := hJ (PIo.new q_11.out HB_12.out)
     have s_12 := hJ (PIo.new s_11.out HB_12.out)
     have f1_12 := hJ (PIo.new f1_11.out HB_12.out)
     have f2_12 := hJ (PIo.new f2_11.out HB_12.out)
     have N0_12 := hJ (PIo.new N0_11.out HB_12.out)
     have N1_12 := hJ (PIo.new N1_11.out HB_12.out)
     have HP_x_12 := hJ (HP_x_11.out.new HB_12.out)
     have HP_b_12 := hJ (HP_b_11.out.new HB_12.out)
     clear hHeld
     refine hK.out _ _ (HS5.out _ HX_12.out) (fun hHeld => ?_)
     clear hK K hk HB_12 hr HX_11 q_11 s_11 f1_11 f2_11 N0_11 N1_11 HP_x_11 HP_b_11
     try simp only [PT]
     refine tq 8 ?_
     try simp only [PT]
     refine tq 9 ?_
     try simp only [PT]
     refine tq 10 ?_
     try simp only [PT]
     refine wpAnyH_ready (rs := [12]) (by kernel_rfl) (by simp) ?_
     refine .cons rfl (fun K hK => ?_) .nil
     obtain ⟨z0, z1⟩ := HP_x_12.out.cells
     have y0 := HP_x_12.out.frozen 0
     have y1 := HP_x_12.out.frozen 1
     have z9 := HP_x_12.out.lt
     go_simp
     obtain ⟨v13, hV⟩ := nmz (World.setCell (World.setCell v12 ⟨gx, 0, none⟩ (.bool t2)) ⟨gx, 1, none⟩ (.slice T2 m2 d2))
     rw [hV]
     have HX_13 := hJ (show Below x4.heap.size x4 v13 by rw [← hV]; exact below_box HX_12.out (HG_x.out) _ _)
     have q_13 := hJ (show PI v13 s2a A2a n2a c2a (q) by rw [← hV]; exact PIo.box (q_12.out) (HP_x_12.out) rfl rfl (.bool t2) (.slice T2 m2 d2))
     have s_13 := hJ (show PI v13 s2b A2b n2b c2b (s) by rw [← hV]; exact PIo.box (s_12.out) (HP_x_12.out) rfl rfl (.bool t2) (.slice T2 m2 d2))
     have f1_13 := hJ (show PI v13 s3a A3a n3a c3a (u) by rw [← hV]; exact PIo.box (f1_12.out) (HP_x_12.out) rfl rfl (.bool t2) (.slice T2 m2 d2))
     have f2_13 := hJ (show PI v13 s3b A3b n3b c3b (v) by rw [← hV]; exact PIo.box (f2_12.out) (HP_x_12.out) rfl rfl (.bool t2) (.slice T2 m2 d2))
     have N0_13 := hJ (show PI v13 t0 T0 m0 d0 (q / v) by rw [← hV]; exact PIo.box (N0_12.out) (HP_x_12.out) rfl rfl (.bool t2) (.slice T2 m2 d2))
     have N1_13 := hJ (show PI v13 t1 T1 m1 d1 (s / u) by rw [← hV]; exact PIo.box (N1_12.out) (HP_x_12.out) rfl rfl (.bool t2) (.slice T2 m2 d2))
     have N2_13 := hJ (show PI v13 t2 T2 m2 d2 (outV ((q / v) * (s / u))) by rw [← hV]; exact PIo.box (N2_12.out) (HP_x_12.out) rfl rfl (.bool t2) (.slice T2 m2 d2))
     have HP_b_13 := hJ (show P2 33 v13 gb (.bool t1) (.slice T1 m1 d1) by rw [← hV]; exact HP_b_12.out.far2 (show gb ≠ gx from HN_x_b.out.symm) (.bool t2) (.slice T2 m2 d2))
     have HP_x_13 := hJ (show P2 33 v13 gx (.bool t2) (.slice T2 m2 d2) by rw [← hV]; exact HP_x_12.out.all (.bool t2) (.slice T2 m2 d2))
     clear hHeld
     refine hK.out _ _ (HS5.out _ HX_13.out) (fun hHeld => ?_)
     clear hK K hV z9 z0 z1 y0 y1 HX_12 q_12 s_12 f1_12 f2_12 N0_12 N1_12 N2_12 HP_b_12 HP_x_12
     try simp only [PT]
     refine tq 13 ?_
     try simp only [PT]
     refine wpAnyH_done (by kernel_rfl) ?_ _
     clear hHeld
     go_wp2_with fail
     go_meet
     exact ⟨gx, t2, T2, m2, d2, rfl, rfl, HP_x_13.out, N2_13.out, HX_13.out⟩
     refine .cons rfl (fun K hK => ?_) .nil
     go_simp
     have HB_14 := hJ ((Below.refl v1.heap.size v1).alloc (Nat.le_refl _) (.cells #[.bool false, .slice none 0 0] 33))
     have HP_x_14 := hJ (P2.lit v1 33 (.bool false) (.slice none 0 0))
     obtain ⟨v14, hV⟩ := nmz (World.alloc v1 (.cells #[.bool false, .slice none 0 0] 33))
     obtain ⟨gx, hg⟩ := nmz (v1.heap.size)
     rw [hV] at HB_14 HP_x_14  ⊢
     rw [hg] at HP_x_14  ⊢
     have HG_x := hJ (show x4.heap.size ≤ gx by rw [← hg]; exact HX_1.out.size)
     have HX_14 := hJ (bt HX_1.out HB_14.out)
     have q_14 := hJ (PIo.new q_1.out HB_14.out)
     have s_14 := hJ (PIo.new s_1.out HB_14.out)
     have f1_14 := hJ (PIo.new f1_1.out HB_14.out)
     have f2_14 := hJ (PIo.new f2_1.out HB_14.out)
     have N0_14 := hJ (PIo.new N0_1.out HB_14.out)
     clear hHeld
     refine hK.out _ _ (HS5.out _ HX_14.out) (fun hHeld => ?_)
     clear hK K hV hg HB_14 HX_1 q_1 s_1 f1_1 f2_1 N0_1
     try simp only [PT]
     refine wpAnyH_ready (rs := [5]) (by kernel_rfl) (by simp) ?_
     refine .cons rfl (fun K hK => ?_) .nil
     go_simp
     go_at_call_of 102 (#[Value.agg #[.bool s2b, .slice A2b n2b c2b], Value.agg #[.bool s3a, .slice A3a n3a c3a]])
     refine (fdivided_any s u s2b s3a A2b A3a n2b c2b n3a c3a v14 ((s_14.out)) (f1_14.out) (by omega) (by omega) HGF.out.1.1).mono ?_
     rintro e v15 ⟨t1, T1, m1, d1, rfl, hr, hk⟩
     have N1_15 := hJ (hr)
     have HB_15 := hJ hk
     go_wp2_with fail
     have HX_15 := hJ (bt HX_14.out HB_15.out)
     have q_15 := hJ (PIo.new q_14.out HB_15.out)
     have s_15 := hJ (PIo.new s_14.out HB_15.out)
     have f1_15 := hJ (PIo.new f1_14.out HB_15.out)
     have f2_15 := hJ (PIo.new f2_14.out HB_15.out)
     have N0_15 := hJ (PIo.new N0_14.out HB_15.out)
     have HP_x_15 := hJ (HP_x_14.out.new HB_15.out)
     clear hHeld
     refine hK.out _ _ (HS5.out _ HX_15.out) (fun hHeld => ?_)
     clear hK K hk HB_15 hr HX_14 q_14 s_14 f1_14 f2_14 N0_14 HP_x_14
     try simp only [PT]
     refine wpAnyH_ready (rs := [6]) (by kernel_rfl) (by simp) ?_
     refine .cons rfl (fun K hK => ?_) .nil
     go_simp
     have HB_16 := hJ ((Below.refl v15.heap.size v15).alloc (Nat.le_refl _) (.cells #[.bool t1, .slice T1 m1 d1] 33))
     have HP_b_16 := hJ (P2.lit v15 33 (.bool t1) (.slice T1 m1 d1))
     have Y_16 := hJ (pel_lit1 (t := 33) N1_15.out HGF.out.2.2.2.2.2)
     obtain ⟨v16, hV⟩ := nmz (World.alloc v15 (.cells #[.bool t1, .slice T1 m1 d1] 33))
     obtain ⟨gb, hg⟩ := nmz (v15.heap.size)
     rw [hV] at HB_16 HP_b_16 Y_16 ⊢
     rw [hg] at HP_b_16 Y_16 ⊢
     have HG_b := hJ (show x4.heap.size ≤ gb by rw [← hg]; exact HX_15.out.size)
     have HN_x_b := hJ (show gx ≠ gb by have := HP_x_15.out.lt; rw [hg] at this; omega)
     have HX_16 := hJ (bt HX_15.out HB_16.out)
     have q_16 := hJ (PIo.new q_15.out HB_16.out)
     have s_16 := hJ (PIo.new s_15.out HB_16.out)
     have f1_16 := hJ (PIo.new f1_15.out HB_16.out)
     have f2_16 := hJ (PIo.new f2_15.out HB_16.out)
     have N0_16 := hJ (PIo.new N0_15.out HB_16.out)
     have N1_16 := hJ (PIo.new N1_15.out HB_16.out)
     have HP_x_16 := hJ (HP_x_15.out.new HB_16.out)
     clear hHeld
     refine hK.out _ _ (HS5.out _ HX_16.out) (fun hHeld => ?_)
     clear hK K hV hg HB_16 HX_15 q_15 s_15 f1_15 f2_15 N0_15 N1_15 HP_x_15
     try simp only [PT]
     refine wpAnyH_ready (rs := [7]) (by kernel_rfl) (by simp) ?_
     refine .cons rfl (fun K hK => ?_) .nil
     go_simp
     go_at_call 109
     refine (fproduct_any [(s / u)] (q / v) t0 T0 m0 d0 gb 1 v16 N0_16.out HGF.out.2.2.2.2.1 Y_16.out HP_b_16.out.lt rfl (by decide)).mono ?_
     rw [(pv_one ((q / v)) ((s / u))).1, (pv_one ((q / v)) ((s / u))).2]
     rintro e v17 ⟨t2, T2, m2, d2, rfl, hr, hk⟩
     have N2_17 := hJ (hr)
     have HB_17 := hJ hk
     go_wp2_with fail
     clear Y_16
     have HX_17 := hJ (bt HX_16.out HB_17.out)
     have q_17 := hJ (PIo.new q_16.out HB_17.out)
     have s_17 := hJ (PIo.new s_16.out HB_17.out)
     have f1_17 := hJ (PIo.new f1_16.out HB_17.out)
     have f2_17 := hJ (PIo.new f2_16.out HB_17.out)
     have N0_17 := hJ (PIo.new N0_16.out HB_17.out)
     have N1_17 := hJ (PIo.new N1_16.out HB_17.out)
     have HP_x_17 := hJ (HP_x_16.out.new HB_17.out)
     have HP_b_17 := hJ (HP_b_16.out.new HB_17.out)
     clear hHeld
     refine hK.out _ _ (HS5.out _ HX_17.out) (fun hHeld => ?_)
     clear hK K hk HB_17 hr HX_16 q_16 s_16 f1_16 f2_16 N0_16 N1_16 HP_x_16 HP_b_16
     try simp only [PT]
     refine tq 8 ?_
     try simp only [PT]
     refine tq 9 ?_
     try simp only [PT]
     refine tq 10 ?_
     try simp only [PT]
     refine wpAnyH_ready (rs := [12]) (by kernel_rfl) (by simp) ?_
     refine .cons rfl (fun K hK => ?_) .nil
     obtain ⟨z0, z1⟩ := HP_x_17.out.cells
     have y0 := HP_x_17.out.frozen 0
     have y1 := HP_x_17.out.frozen 1
     have z9 := HP_x_17.out.lt
     go_simp
     obtain ⟨v18, hV⟩ := nmz (World.setCell (World.setCell v17 ⟨gx, 0, none⟩ (.bool t2)) ⟨gx, 1, none⟩ (.slice T2 m2 d2))
     rw [hV]
     have HX_18 := hJ (show Below x4.heap.size x4 v18 by rw [← hV]; exact below_box HX_17.out (HG_x.out) _ _)
     have q_18 := hJ (show PI v18 s2a A2a n2a c2a (q) by rw [← hV]; exact PIo.box (q_17.out) (HP_x_17.out) rfl rfl (.bool t2) (.slice T2 m2 d2))
     have s_18 := hJ (show PI v18 s2b A2b n2b c2b (s) by rw [← hV]; exact PIo.box (s_17.out) (HP_x_17.out) rfl rfl (.bool t2) (.slice T2 m2 d2))
     have f1_18 := hJ (show PI v18 s3a A3a n3a c3a (u) by rw [← hV]; exact PIo.box (f1_17.out) (HP_x_17.out) rfl rfl (.bool t2) (.slice T2 m2 d2))
     have f2_18 := hJ (show PI v18 s3b A3b n3b c3b (v) by rw [← hV]; exact PIo.box (f2_17.out) (HP_x_17.out) rfl rfl (.bool t2) (.slice T2 m2 d2))
     have N0_18 := hJ (show PI v18 t0 T0 m0 d0 (q / v) by rw [← hV]; exact PIo.box (N0_17.out) (HP_x_17.out) rfl rfl (.bool t2) (.slice T2 m2 d2))
     have N1_18 := hJ (show PI v18 t1 T1 m1 d1 (s / u) by rw [← hV]; exact PIo.box (N1_17.out) (HP_x_17.out) rfl rfl (.bool t2) (.slice T2 m2 d2))
     have N2_18 := hJ (show PI v18 t2 T2 m2 d2 (outV ((q / v) * (s / u))) by rw [← hV]; exact PIo.box (N2_17.out) (HP_x_17.out) rfl rfl (.bool t2) (.slice T2 m2 d2))
     have HP_b_18 := hJ (show P2 33 v18 gb (.bool t1) (.slice T1 m1 d1) by rw [← hV]; exact HP_b_17.out.far2 (show gb ≠ gx from HN_x_b.out.symm) (.bool t2) (.slice T2 m2 d2))
     have HP_x_18 := hJ (show P2 33 v18 gx (.bool t2) (.slice T2 m2 d2) by rw [← hV]; exact HP_x_17.out.all (.bool t2) (.slice T2 m2 d2))
     clear hHeld
     refine hK.out _ _ (HS5.out _ HX_18.out) (fun hHeld => ?_)
     clear hK K hV z9 z0 z1 y0 y1 HX_17 q_17 s_17 f1_17 f2_17 N0_17 N1_17 N2_17 HP_b_17 HP_x_17
     try simp only [PT]
     refine tq 13 ?_
     try simp only [PT]
     refine wpAnyH_done (by kernel_rfl) ?_ _
     clear hHeld
     go_wp2_with fail
     go_meet
     exact ⟨gx, t2, T2, m2, d2, rfl, rfl, HP_x_18.out, N2_18.out, HX_18.out⟩
     refine .cons rfl (fun K hK => ?_) .nil
     go_simp
     have HB_19 := hJ ((Below.refl v0.heap.size v0).alloc (Nat.le_refl _) (.cells #[.bool false, .slice none 0 0] 33))
     have HP_x_19 := hJ (P2.lit v0 33 (.bool false) (.slice none 0 0))
     obtain ⟨v19, hV⟩ := nmz (World.alloc v0 (.cells #[.bool false, .slice none 0 0] 33))
     obtain ⟨gx, hg⟩ := nmz (v0.heap.size)
     rw [hV] at HB_19 HP_x_19  ⊢
     rw [hg] at HP_x_19  ⊢
     have HG_x := hJ (show x4.heap.size ≤ gx by rw [← hg]; exact HX_0.out.size)
     have HX_19 := hJ (bt HX_0.out HB_19.out)
     have q_19 := hJ (PIo.new q_0.out HB_19.out)
     have s_19 := hJ (PIo.new s_0.out HB_19.out)
     have f1_19 := hJ (PIo.new f1_0.out HB_19.out)
     have f2_19 := hJ (PIo.new f2_0.out HB_19.out)
     clear hHeld
     refine hK.out _ _ (HS5.out _ HX_19.out) (fun hHeld => ?_)
     clear hK K hV hg HB_19 HX_0 q_0 s_0 f1_0 f2_0
     try simp only [PT]
     refine wpAnyH_ready (rs := [2]) (by kernel_rfl) (by simp) ?_
     refine .cons rfl (fun K hK => ?_) .nil
     go_simp
     go_at_call_of 102 (#[Value.agg #[.bool s2a, .slice A2a n2a c2a], Value.agg #[.bool s3b, .slice A3b n3b c3b]])
     refine (fdivided_any q v s2a s3b A2a A3b n2a c2a n3b c3b v19 ((q_19.out)) (f2_19.out) (by omega) (by omega) HGF.out.2.1.1).mono ?_
     rintro e v20 ⟨t0, T0, m0, d0, rfl, hr, hk⟩
     have N0_20 := hJ (hr)
     have HB_20 := hJ hk
     go_wp2_with fail
     have HX_20 := hJ (bt HX_19.out HB_20.out)
     have q_20 := hJ (PIo.new q_19.out HB_20.out)
     have s_20 := hJ (PIo.new s_19.out HB_20.out)
     have f1_20 := hJ (PIo.new f1_19.out HB_20.out)
     have f2_20 := hJ (PIo.new f2_19.out HB_20.out)
     have HP_x_20 := hJ (HP_x_19.out.new HB_20.out)
     clear hHeld
     refine hK.out _ _ (HS5.out _ HX_20.out) (fun hHeld => ?_)
     clear hK K hk HB_20 hr HX_19 q_19 s_19 f1_19 f2_19 HP_x_19
     try simp only [PT]
     refine wpAnyH_ready (rs := [5]) (by kernel_rfl) (by simp) ?_
     refine .cons rfl (fun K hK => ?_) .nil
     go_simp
     go_at_call_of 102 (#[Value.agg #[.bool s2b, .slice A2b n2b c2b], Value.agg #[.bool s3a, .slice A3a n3a c3a]])
     refine (fdivided_any s u s2b s3a A2b A3a n2b c2b n3a c3a v20 ((s_20.out)) (f1_20.out) (by omega) (by omega) HGF.out.1.1).mono ?_
     rintro e v21 ⟨t1, T1, m1, d1, rfl, hr, hk⟩
     have N1_21 := hJ (hr)
     have HB_21 := hJ hk
     go_wp2_with fail
     have HX_21 := hJ (bt HX_20.out HB_21.out)
     have q_21 := hJ (PIo.new q_20.out HB_21.out)
     have s_21 := hJ (PIo.new s_20.out HB_21.out)
     have f1_21 := hJ (PIo.new f1_20.out HB_21.out)
     have f2_21 := hJ (PIo.new f2_20.out HB_21.out)
     have N0_21 := hJ (PIo.new N0_20.out HB_21.out)
     have HP_x_21 := hJ (HP_x_20.out.new HB_21.out)
     clear hHeld
     refine hK.out _ _ (HS5.out _ HX_21.out) (fun hHeld => ?_)
     clear hK K hk HB_21 hr HX_20 q_20 s_20 f1_20 f2_20 N0_20 HP_x_20
     try simp only [PT]
     refine wpAnyH_ready (rs := [6]) (by kernel_rfl) (by simp) ?_
     refine .cons rfl (fun K hK => ?_) .nil
     go_simp
     have HB_22 := hJ ((Below.refl v21.heap.size v21).alloc (Nat.le_refl _) (.cells #[.bool t1, .slice T1 m1 d1] 33))
     have HP_b_22 := hJ (P2.lit v21 33 (.bool t1) (.slice T1 m1 d1))
     have Y_22 := hJ (pel_lit1 (t := 33) N1_21.out HGF.out.2.2.2.2.2)
     obtain ⟨v22, hV⟩ := nmz (World.alloc v21 (.cells #[.bool t1, .slice T1 m1 d1] 33))
     obtain ⟨gb, hg⟩ := nmz (v21.heap.size)
     rw [hV] at HB_22 HP_b_22 Y_22 ⊢
     rw [hg] at HP_b_22 Y_22 ⊢
     have HG_b := hJ (show x4.heap.size ≤ gb by rw [← hg]; exact HX_21.out.size)
     have HN_x_b := hJ (show gx ≠ gb by have := HP_x_21.out.lt; rw [hg] at this; omega)
     have HX_22 := hJ (bt HX_21.out HB_22.out)
     have q_22 := hJ (PIo.new q_21.out HB_22.out)
     have s_22 := hJ (PIo.new s_21.out HB_22.out)
     have f1_22 := hJ (PIo.new f1_21.out HB_22.out)
     have f2_22 := hJ (PIo.new f2_21.out HB_22.out)
     have N0_22 := hJ (PIo.new N0_21.out HB_22.out)
     have N1_22 := hJ (PIo.new N1_21.out HB_22.out)
     have HP_x_22 := hJ (HP_x_21.out.new HB_22.out)
     clear hHeld
     refine hK.out _ _ (HS5.out _ HX_22.out) (fun hHeld => ?_)
     clear hK K hV hg HB_22 HX_21 q_21 s_21 f1_21 f2_21 N0_21 N1_21 HP_x_21
     try simp only [PT]
     refine wpAnyH_ready (rs := [7]) (by kernel_rfl) (by simp) ?_
     refine .cons rfl (fun K hK => ?_) .nil
     go_simp
     go_at_call 109
     refine (fproduct_any [(s / u)] (q / v) t0 T0 m0 d0 gb 1 v22 N0_22.out HGF.out.2.2.2.2.1 Y_22.out HP_b_22.out.lt rfl (by decide)).mono ?_
     rw [(pv_one ((q / v)) ((s / u))).1, (pv_one ((q / v)) ((s / u))).2]
     rintro e v23 ⟨t2, T2, m2, d2, rfl, hr, hk⟩
     have N2_23 := hJ (hr)
     have HB_23 := hJ hk
     go_wp2_with fail
     clear Y_22
     have HX_23 := hJ (bt HX_22.out HB_23.out)
     have q_23 := hJ (PIo.new q_22.out HB_23.out)
     have s_23 := hJ (PIo.new s_22.out HB_23.out)
     have f1_23 := hJ (PIo.new f1_22.out HB_23.out)
     have f2_23 := hJ (PIo.new f2_22.out HB_23.out)
     have N0_23 := hJ (PIo.new N0_22.out HB_23.out)
     have N1_23 := hJ (PIo.new N1_22.out HB_23.out)
     have HP_x_23 := hJ (HP_x_22.out.new HB_23.out)
     have HP_b_23 := hJ (HP_b_22.out.new HB_23.out)
     clear hHeld
     refine hK.out _ _ (HS5.out _ HX_23.out) (fun hHeld => ?_)
     clear hK K hk HB_23 hr HX_22 q_22 s_22 f1_22 f2_22 N0_22 N1_22 HP_x_22 HP_b_22
     try simp only [PT]
     refine tq 8 ?_
     try simp only [PT]
     refine tq 9 ?_
     try simp only [PT]
     refine tq 10 ?_
     try simp only [PT]
     refine wpAnyH_ready (rs := [12]) (by kernel_rfl) (by simp) ?_
     refine .cons rfl (fun K hK => ?_) .nil
     obtain ⟨z0, z1⟩ := HP_x_23.out.cells
     have y0 := HP_x_23.out.frozen 0
     have y1 := HP_x_23.out.frozen 1
     have z9 := HP_x_23.out.lt
     go_simp
     obtain ⟨v24, hV⟩ := nmz (World.setCell (World.setCell v23 ⟨gx, 0, none⟩ (.bool t2)) ⟨gx, 1, none⟩ (.slice T2 m2 d2))
     rw [hV]
     have HX_24 := hJ (show Below x4.heap.size x4 v24 by rw [← hV]; exact below_box HX_23.out (HG_x.out) _ _)
     have q_24 := hJ (show PI v24 s2a A2a n2a c2a (q) by rw [← hV]; exact PIo.box (q_23.out) (HP_x_23.out) rfl rfl (.bool t2) (.slice T2 m2 d2))
     have s_24 := hJ (show PI v24 s2b A2b n2b c2b (s) by rw [← hV]; exact PIo.box (s_23.out) (HP_x_23.out) rfl rfl (.bool t2) (.slice T2 m2 d2))
     have f1_24 := hJ (show PI v24 s3a A3a n3a c3a (u) by rw [← hV]; exact PIo.box (f1_23.out) (HP_x_23.out) rfl rfl (.bool t2) (.slice T2 m2 d2))
     have f2_24 := hJ (show PI v24 s3b A3b n3b c3b (v) by rw [← hV]; exact PIo.box (f2_23.out) (HP_x_23.out) rfl rfl (.bool t2) (.slice T2 m2 d2))
     have N0_24 := hJ (show PI v24 t0 T0 m0 d0 (q / v) by rw [← hV]; exact PIo.box (N0_23.out) (HP_x_23.out) rfl rfl (.bool t2) (.slice T2 m2 d2))
     have N1_24 := hJ (show PI v24 t1 T1 m1 d1 (s / u) by rw [← hV]; exact PIo.box (N1_23.out) (HP_x_23.out) rfl rfl (.bool t2) (.slice T2 m2 d2))
     have N2_24 := hJ (show PI v24 t2 T2 m2 d2 (outV ((q / v) * (s / u))) by rw [← hV]; exact PIo.box (N2_23.out) (HP_x_23.out) rfl rfl (.bool t2) (.slice T2 m2 d2))
     have HP_b_24 := hJ (show P2 33 v24 gb (.bool t1) (.slice T1 m1 d1) by rw [← hV]; exact HP_b_23.out.far2 (show gb ≠ gx from HN_x_b.out.symm) (.bool t2) (.slice T2 m2 d2))
     have HP_x_24 := hJ (show P2 33 v24 gx (.bool t2) (.slice T2 m2 d2) by rw [← hV]; exact HP_x_23.out.all (.bool t2) (.slice T2 m2 d2))
     clear hHeld
     refine hK.out _ _ (HS5.out _ HX_24.out) (fun hHeld => ?_)
     clear hK K hV z9 z0 z1 y0 y1 HX_23 q_23 s_23 f1_23 f2_23 N0_23 N1_23 N2_23 HP_b_23 HP_x_23
     try simp only [PT]
     refine tq 13 ?_
     try simp only [PT]
     refine wpAnyH_done (by kernel_rfl) ?_ _
     clear hHeld
     go_wp2_with fail
     go_meet
     exact ⟨gx, t2, T2, m2, d2, rfl, rfl, HP_x_24.out, N2_24.out, HX_24.out⟩
    case rest =>
     obtain ⟨G5, s5, A5, n5, c5, rfl, rfl, hq1, hr1, hbx⟩ := hcut
     have HQ5 := hJ hq1
     have HR5 := hJ hr1
     have HB5 := hJ hbx
     obtain ⟨x5, rfl⟩ := nm_world hbx
     clear hq1 hr1 hbx HS5 HXX5
     have hn5 : n5 ≤ 512 := plim HR5.out (outV_lim _)
     have HQa_5 := hJ (HQa_4.out.new HB5.out)
     have HRa_5 := hJ (HRa_4.out.new HB5.out)
     have HQd_5 := hJ (HQd_4.out.new HB5.out)
     have HRd_5 := hJ (HRd_4.out.new HB5.out)
     have HQz_5 := hJ (HQz_4.out.new HB5.out)
     have HRz_5 := hJ (HRz_4.out.new HB5.out)
     have HQ2a_5 := hJ (HQ2a_4.out.new HB5.out)
     have HR2a_5 := hJ (PIo.new HR2a_4.out HB5.out)
     have HQ2b_5 := hJ (HQ2b_4.out.new HB5.out)
     have HR2b_5 := hJ (PIo.new HR2b_4.out HB5.out)
     have HQ3a_5 := hJ (HQ3a_4.out.new HB5.out)
     have HR3a_5 := hJ (PIo.new HR3a_4.out HB5.out)
     have HQ3b_5 := hJ (HQ3b_4.out.new HB5.out)
     have HR3b_5 := hJ (PIo.new HR3b_4.out HB5.out)
     have HQ4_5 := hJ (HQ4.out.new HB5.out)
     have HR4_5 := hJ (PIo.new HR4.out HB5.out)
     have HW_5 := hJ (bt HW_4.out HB5.out)
     clear HQa_4 HRa_4 HQd_4 HRd_4 HQz_4 HRz_4 HQ2a_4 HR2a_4 HQ2b_4 HR2b_4 HQ3a_4 HR3a_4 HQ3b_4 HR3b_4 HQ4 HR4 HW_4 HB5
     obtain ⟨x6, hx6⟩ := nmz (x5.alloc (.cells #[.int .i64 (outC ((p / u) * (r / v))), .int .i64 (outC ((q / v) * (s / u)))] 36))
     have HB6 := hJ (show Below x5.heap.size x5 x6 by rw [← hx6]; exact (Below.refl _ _).alloc (Nat.le_refl _) _)
     have HY6 := hJ (show Codes x6 x5.heap.size [outC ((p / u) * (r / v)), outC ((q / v) * (s / u))] by rw [← hx6]; exact codes_lit2 _ _)
     have HQa_6 := hJ (HQa_5.out.new HB6.out)
     have HRa_6 := hJ (HRa_5.out.new HB6.out)
     have HQd_6 := hJ (HQd_5.out.new HB6.out)
     have HRd_6 := hJ (HRd_5.out.new HB6.out)
     have HQz_6 := hJ (HQz_5.out.new HB6.out)
     have HRz_6 := hJ (HRz_5.out.new HB6.out)
     have HQ2a_6 := hJ (HQ2a_5.out.new HB6.out)
     have HR2a_6 := hJ (PIo.new HR2a_5.out HB6.out)
     have HQ2b_6 := hJ (HQ2b_5.out.new HB6.out)
     have HR2b_6 := hJ (PIo.new HR2b_5.out HB6.out)
     have HQ3a_6 := hJ (HQ3a_5.out.new HB6.out)
     have HR3a_6 := hJ (PIo.new HR3a_5.out HB6.out)
     have HQ3b_6 := hJ (HQ3b_5.out.new HB6.out)
     have HR3b_6 := hJ (PIo.new HR3b_5.out HB6.out)
     have HQ4_6 := hJ (HQ4_5.out.new HB6.out)
     have HR4_6 := hJ (PIo.new HR4_5.out HB6.out)
     have HQ5_6 := hJ (HQ5.out.new HB6.out)
     have HR5_6 := hJ (PIo.new HR5.out HB6.out)
     have HW_6 := hJ (bt HW_5.out HB6.out)
     clear HQa_5 HRa_5 HQd_5 HRd_5 HQz_5 HRz_5 HQ2a_5 HR2a_5 HQ2b_5 HR2b_5 HQ3a_5 HR3a_5 HQ3b_5 HR3b_5 HQ4_5 HR4_5 HQ5 HR5 HW_5 HB6
     go_wp2_with fail
     refine (ferror_any [outC ((p / u) * (r / v)), outC ((q / v) * (s / u))] x5.heap.size 2 x6 HY6.out rfl (by decide)).mono ?_
     have HCC := hJ (mu_codes (p := p) (q := q) (r := r) (s := s) HUV.out.1 HUV.out.2)
     obtain ⟨x, hx⟩ : ∃ yy, feV [outC ((p / u) * (r / v)), outC ((q / v) * (s / u))] = yy := ⟨_, rfl⟩
     rw [hx] at HCC ⊢
     clear hx
     rintro e w' ⟨rfl, rfl⟩
     by_cases hx : x = 0
     ·have HE := hJ (HCC.out.1 hx)
      subst hx
      clear HCC
      have hr1 := HR4_6.out
      have hr2 := HR5_6.out
      rw [HE.out.1] at hr1
      rw [HE.out.2.1] at hr2
      have HR1 := hJ hr1
      have HR2 := hJ hr2
      clear hr1 hr2
      obtain ⟨clnum0_7, clnum1_7⟩ := HQ4_6.out.cells
      obtain ⟨clden0_7, clden1_7⟩ := HQ5_6.out.cells
      go_wp2_with fail
      refine (flowest_any ((p / u) * (r / v)) ((q / v) * (s / u)) s4 s5 A4 A5 n4 c4 n5 c5 x6 HR1.out HR2.out (by omega)).mono ?_
      rintro e wy ⟨s7, A7, n7, c7, s8, A8, n8, c8, rfl, hr7, hb7⟩
      have HR7 := hJ hr7
      have HZ7 := hJ (HQz_6.out.new hb7)
      have HB7 := hJ (bt HW_6.out hb7)
      clear hr7 hb7 hx6 clnum0_7 clnum1_7 clden0_7 clden1_7
      obtain ⟨z0, z1, z2, z3⟩ := HZ7.out.cells
      have f0 := HZ7.out.frozen 0
      have f1 := HZ7.out.frozen 1
      have f2 := HZ7.out.frozen 2
      have f3 := HZ7.out.frozen 3
      go_wp2
      exact bodyPost_ret (results_cell1 rfl _ _ _ _ _ _ _ rfl (HZ7.out.all (.bool s7) (.slice A7 n7 c7) (.bool s8) (.slice A8 n8 c8)) Tryz.underlying35 rfl F_size) rfl (by rw [HE.out.2.2.1, HE.out.2.2.2.1, HE.out.2.2.2.2]; exact RetFE.stored HR7.out HZ7.out HB7.out (by rw [HH.out]; omega) _ _ _ _)
     ·have HNO := hJ (HCC.out.2 hx)
      have hub : (x == 0) = false := by simp [hx]
      have hue : x = 4 := HNO.out.2.2.2
      subst hue
      clear hx HCC hub
      obtain ⟨z0, z1, z2, z3⟩ := HQz_6.out.cells
      have f0 := HQz_6.out.frozen 0
      have f1 := HQz_6.out.frozen 1
      have f2 := HQz_6.out.frozen 2
      have f3 := HQz_6.out.frozen 3
      go_wp2
      exact bodyPost_ret (results_cell1 rfl _ _ _ _ _ _ _ rfl (HQz_6.out.all (.bool false) (.slice none 0 0) (.bool false) (.slice none 0 0)) Tryz.underlying35 rfl F_size) rfl (by rw [HNO.out.1, HNO.out.2.1, HNO.out.2.2.1]; exact RetFE.stored (p := 0) (q := 1) ⟨PI.zero _, PI.zero _⟩ HQz_6.out HW_6.out (by rw [HH.out]; omega) _ _ _ _)

end Go.Proofs.YtbhnaffbgggabaaGreat
