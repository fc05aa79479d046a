/- Contracts of the program's fractions: Add. Conditions: as each statement has them. -/
import Derived.Test.YtbhnaffbgggabaaGreatFY
import Derived.Test.YtbhnaffbgggabaaGreatFD
import Derived.Deep.DeepCutAuto
namespace Go.Proofs.YtbhnaffbgggabaaGreat
open Go.RowKit
attribute [local go_sem ↓] Go.wp_at_zero Go.wp_at_succ
def W444 (t : TypeId) (w : World) (a0 a1 a2 a3 b0 b1 b2 b3 z0 z1 z2 z3 : Value) : World := ((w.alloc (.cells #[a0, a1, a2, a3] t)).alloc (.cells #[b0, b1, b2, b3] t)).alloc (.cells #[z0, z1, z2, z3] t)
section
variable (t : TypeId) (w : World) (a0 a1 a2 a3 b0 b1 b2 b3 z0 z1 z2 z3 : Value)
theorem W444_a : P4 t (W444 t w a0 a1 a2 a3 b0 b1 b2 b3 z0 z1 z2 z3) w.heap.size a0 a1 a2 a3 := ((P4.lit w t a0 a1 a2 a3).new ((Below.refl _ _).alloc (Nat.le_refl _) _)).new ((Below.refl _ _).alloc (Nat.le_refl _) _)
theorem W444_b : P4 t (W444 t w a0 a1 a2 a3 b0 b1 b2 b3 z0 z1 z2 z3) (w.heap.size + 1) b0 b1 b2 b3 := by
 have := P4.lit (w.alloc (.cells #[a0, a1, a2, a3] t)) t b0 b1 b2 b3
 rw [World.size_alloc] at this
 exact this.new ((Below.refl _ _).alloc (Nat.le_refl _) _)
theorem W444_z : P4 t (W444 t w a0 a1 a2 a3 b0 b1 b2 b3 z0 z1 z2 z3) (w.heap.size + 1 + 1) z0 z1 z2 z3 := by
 have := P4.lit ((w.alloc (.cells #[a0, a1, a2, a3] t)).alloc (.cells #[b0, b1, b2, b3] t)) t z0 z1 z2 z3
 rw [World.size_alloc, World.size_alloc] at this
 exact this
theorem W444_k : Below w.heap.size w (W444 t w a0 a1 a2 a3 b0 b1 b2 b3 z0 z1 z2 z3) := (((Below.refl _ w).alloc (Nat.le_refl _) _).alloc (by simp) _).alloc (by simp; omega) _
end
def adG (q s : Int) : Int := ((Nat.gcd q.natAbs s.natAbs : Nat) : Int)
def adN (p q r s : Int) : Int := p * (s / adG q s) + r * (q / adG q s)
def adD (q s : Int) : Int := q / adG q s * s
/-- Everything on the way is in range. -/
def adK (p q r s : Int) : Prop := (p * (s / adG q s)).natAbs < lim ∧ (r * (q / adG q s)).natAbs < lim ∧ (adN p q r s).natAbs < lim ∧ (adD q s).natAbs < lim
instance (p q r s : Int) : Decidable (adK p q r s) := by unfold adK; infer_instance
def adH (p q r s : Int) : Int := ((Nat.gcd (adN p q r s).natAbs (adG q s).natAbs : Nat) : Int)
def adP (p q r s : Int) : Int := if adK p q r s then adN p q r s / adH p q r s else 0
def adQ (p q r s : Int) : Int := if adK p q r s then adD q s / adH p q r s else 1
def adC (p q r s : Int) : Int := if adK p q r s then 0 else 4
theorem ad_gcd {q s : Int} (hq : 0 < q) (_ : 0 < s) (hlq : q.natAbs < lim) (hls : s.natAbs < lim) : adG q s ≠ 0 ∧ (adG q s).natAbs < lim ∧ (q / adG q s).natAbs < lim ∧ (s / adG q s).natAbs < lim := by
 have h1 := Nat.gcd_pos_of_pos_left s.natAbs (show 0 < q.natAbs by omega)
 have h2 := Nat.gcd_le_left s.natAbs (show 0 < q.natAbs by omega)
 refine ⟨by unfold adG; omega, by unfold adG; rw [Int.natAbs_natCast]; omega, Nat.lt_of_le_of_lt (Int.natAbs_ediv_le_natAbs _ _) hlq, Nat.lt_of_le_of_lt (Int.natAbs_ediv_le_natAbs _ _) hls⟩
theorem codes_lit4 {w : World} {t : TypeId} (a b c d : Int) : Codes (w.alloc (.cells #[.int .i64 a, .int .i64 b, .int .i64 c, .int .i64 d] t)) w.heap.size [a, b, c, d] := by
 have hh := (P4.lit w t (.int .i64 a) (.int .i64 b) (.int .i64 c) (.int .i64 d)).cells
 intro i hi
 match i, hi with
 | 0, _ => exact hh.1
 | 1, _ => exact hh.2.1
 | 2, _ => exact hh.2.2.1
 | 3, _ => exact hh.2.2.2
theorem P2_ne_P4 {t u : TypeId} {w : World} {b c : Nat} {x0 x1 y0 y1 y2 y3 : Value} (h : P2 t w b x0 x1) (k : P4 u w c y0 y1 y2 y3) : b ≠ c := by
 intro e
 subst e
 unfold P2 at h
 unfold P4 at k
 rw [h] at k
 injection k with k
 injection k with k
 exact absurd (congrArg Array.size k) (by simp)
theorem ad_codes {p q r s g qp sp : Int} (hg : adG q s = g) (hq : q / g = qp) (hs : s / g = sp) (h0 : g ≠ 0) (hl : g.natAbs < lim) :
  (feV [outC (p * sp), outC (r * qp), outC (outV (p * sp) + outV (r * qp)), outC (qp * s)] = 0 → outV (outV (p * sp) + outV (r * qp)) = adN p q r s ∧ outV (qp * s) = adD q s ∧ adK p q r s ∧ True ∧ ((Nat.gcd (adN p q r s).natAbs g.natAbs : Nat) : Int).natAbs < lim ∧ ((Nat.gcd (adN p q r s).natAbs g.natAbs : Nat) : Int) ≠ 0 ∧ True ∧ (adD q s / ((Nat.gcd (adN p q r s).natAbs g.natAbs : Nat) : Int)).natAbs < lim) ∧
  (feV [outC (p * sp), outC (r * qp), outC (outV (p * sp) + outV (r * qp)), outC (qp * s)] ≠ 0 → adP p q r s = 0 ∧ adQ p q r s = 1 ∧ adC p q r s = 4 ∧ feV [outC (p * sp), outC (r * qp), outC (outV (p * sp) + outV (r * qp)), outC (qp * s)] = 4) := by
 have eN : adN p q r s = p * sp + r * qp := by unfold adN; rw [hg, hq, hs]
 have eD : adD q s = qp * s := by unfold adD; rw [hg, hq]
 have eK : adK p q r s ↔ (p * sp).natAbs < lim ∧ (r * qp).natAbs < lim ∧ (p * sp + r * qp).natAbs < lim ∧ (qp * s).natAbs < lim := by
  unfold adK
  rw [eN, eD, hg, hq, hs]
 have h1 := Nat.gcd_pos_of_pos_right (adN p q r s).natAbs (show 0 < g.natAbs by omega)
 have h2 := Nat.gcd_le_right (adN p q r s).natAbs (show 0 < g.natAbs by omega)
 have no : ¬ adK p q r s → adP p q r s = 0 ∧ adQ p q r s = 1 ∧ adC p q r s = 4 := fun h => ⟨if_neg h, if_neg h, if_neg h⟩
 generalize p * sp = x at *
 generalize r * qp = y at *
 generalize qp * s = z at *
 rcases outVC x with ⟨a1, a2, a3⟩ | ⟨a1, a2, a3⟩
 ·rcases outVC y with ⟨b1, b2, b3⟩ | ⟨b1, b2, b3⟩
  ·rw [a2, b2, a3, b3]
   rcases outVC (x + y) with ⟨c1, c2, c3⟩ | ⟨c1, c2, c3⟩
   ·rcases outVC z with ⟨d1, d2, d3⟩ | ⟨d1, d2, d3⟩
    ·rw [c2, c3, d2, d3]
     refine ⟨fun _ => ⟨eN.symm, eD.symm, eK.2 ⟨a1, b1, c1, d1⟩, trivial, by rw [Int.natAbs_natCast]; omega, by omega, trivial, ?_⟩, fun h => absurd rfl h⟩
     refine Nat.lt_of_le_of_lt (Int.natAbs_ediv_le_natAbs _ _) ?_
     rw [eD]
     exact d1
    ·rw [c3, d3]
     exact ⟨fun h => by simp [feV] at h, fun _ => ⟨(no (fun k => d1 (eK.1 k).2.2.2)).1, (no (fun k => d1 (eK.1 k).2.2.2)).2.1, (no (fun k => d1 (eK.1 k).2.2.2)).2.2, by simp [feV]⟩⟩
   ·rw [c3]
    exact ⟨fun h => by simp [feV] at h, fun _ => ⟨(no (fun k => c1 (eK.1 k).2.2.1)).1, (no (fun k => c1 (eK.1 k).2.2.1)).2.1, (no (fun k => c1 (eK.1 k).2.2.1)).2.2, by simp [feV]⟩⟩
  ·rw [a3, b3]
   exact ⟨fun h => by simp [feV] at h, fun _ => ⟨(no (fun k => b1 (eK.1 k).2.1)).1, (no (fun k => b1 (eK.1 k).2.1)).2.1, (no (fun k => b1 (eK.1 k).2.1)).2.2, by simp [feV]⟩⟩
 ·rw [a3]
  exact ⟨fun h => by simp [feV] at h, fun _ => ⟨(no (fun k => a1 (eK.1 k).1)).1, (no (fun k => a1 (eK.1 k).1)).2.1, (no (fun k => a1 (eK.1 k).1)).2.2, by simp [feV]⟩⟩
theorem ad_ok {p q r s N D g H : Int} (hk : adK p q r s) (_ : True) (hN : adN p q r s = N) (hD : adD q s = D) (hg : adG q s = g) (hH : ((Nat.gcd N.natAbs g.natAbs : Nat) : Int) = H) : adP p q r s = N / H ∧ adQ p q r s = D / H ∧ adC p q r s = 0 := by
 have e : adH p q r s = H := by unfold adH; rw [hN, hg, hH]
 exact ⟨by unfold adP; rw [if_pos hk, hN, e], by unfold adQ; rw [if_pos hk, hD, e], if_pos hk⟩
set_option maxRecDepth 100000 in
set_option maxHeartbeats 6400000 in
theorem fadd_any (p q r s : Int) (sa sb sd se : Bool) (Aa Ab Ad Ae : Option Addr) (na ca nb cb nd cd ne ce : Nat) (w : World) (hx : PF w sa Aa na ca sb Ab nb cb p q) (hy : PF w sd Ad nd cd se Ae ne ce r s) (hq : 0 < q) (hs : 0 < s) (hlp : p.natAbs < lim) (hlq : q.natAbs < lim) (hlr : r.natAbs < lim) (hls : s.natAbs < lim) :
  Calls Tryz.prog 33 #[.agg #[.bool sa, .slice Aa na ca, .bool sb, .slice Ab nb cb], .agg #[.bool sd, .slice Ad nd cd, .bool se, .slice Ae ne ce]] w (RetFE (adP p q r s) (adQ p q r s) (adC p q r s) w) := by
 have HL0 := hJ (And.intro hq (And.intro hs (And.intro hlp (And.intro hlq (And.intro hlr hls)))))
 obtain ⟨W, hW⟩ : ∃ W, ((w.alloc (.cells #[.bool sa, .slice Aa na ca, .bool sb, .slice Ab nb cb] 35)).alloc (.cells #[.bool sd, .slice Ad nd cd, .bool se, .slice Ae ne ce] 35)).alloc (.cells #[.bool false, .slice none 0 0, .bool false, .slice none 0 0] 35) = W := ⟨_, rfl⟩
 have HK := hJ (show Below w.heap.size w W by rw [← hW]; exact W444_k _ _ _ _ _ _ _ _ _ _ _ _ _ _)
 have HPa := hJ (show P4 35 W w.heap.size (.bool sa) (.slice Aa na ca) (.bool sb) (.slice Ab nb cb) by rw [← hW]; exact W444_a _ _ _ _ _ _ _ _ _ _ _ _ _ _)
 have HPb := hJ (show P4 35 W (w.heap.size + 1) (.bool sd) (.slice Ad nd cd) (.bool se) (.slice Ae ne ce) by rw [← hW]; exact W444_b _ _ _ _ _ _ _ _ _ _ _ _ _ _)
 have HPz := hJ (show P4 35 W (w.heap.size + 1 + 1) (.bool false) (.slice none 0 0) (.bool false) (.slice none 0 0) by rw [← hW]; exact W444_z _ _ _ _ _ _ _ _ _ _ _ _ _ _)
 have HRa := hJ (hx.new HK.out)
 have HRb := hJ (hy.new HK.out)
 have HRz := hJ (show PF W false none 0 0 false none 0 0 0 1 from ⟨PI.zero W, PI.zero W⟩)
 have hna : na ≤ 512 := plim hx.1 hlp
 have hnb : nb ≤ 512 := plim hx.2 (dn_lim hlq)
 have hnd : nd ≤ 512 := plim hy.1 hlr
 have hne : ne ≤ 512 := plim hy.2 (dn_lim hls)
 obtain ⟨h, hh⟩ : ∃ h, w.heap.size = h := ⟨_, rfl⟩
 have HH := hJ hh
 rw [hh] at HPa HPb HPz
 clear hx hy hq hs hlp hlq hlr hls
 go_enter Tryz.func33, Tryz.ntmps33
 have HS2 : Hid (∀ w', Below W.heap.size W w' → (fun w' : World => w'.cell? ⟨h, 0, none⟩ = some (.bool sa) ∧ w'.cell? ⟨h, 1, none⟩ = some (.slice Aa na ca) ∧ w'.cell? ⟨h, 2, none⟩ = some (.bool sb) ∧ w'.cell? ⟨h, 3, none⟩ = some (.slice Ab nb cb) ∧ w'.cell? ⟨(h + 1), 0, none⟩ = some (.bool sd) ∧ w'.cell? ⟨(h + 1), 1, none⟩ = some (.slice Ad nd cd) ∧ w'.cell? ⟨(h + 1), 2, none⟩ = some (.bool se) ∧ w'.cell? ⟨(h + 1), 3, none⟩ = some (.slice Ae ne ce) ∧ Below W.heap.size W w') w') := hJ (fun w' hb => ⟨(HPa.out.new hb).cells.1, (HPa.out.new hb).cells.2.1, (HPa.out.new hb).cells.2.2.1, (HPa.out.new hb).cells.2.2.2, (HPb.out.new hb).cells.1, (HPb.out.new hb).cells.2.1, (HPb.out.new hb).cells.2.2.1, (HPb.out.new hb).cells.2.2.2, hb⟩)
 have HXX2 := hJ (Below.refl W.heap.size W)
 go_upto_region 1 with fail
 clear hW hh
 go_cut [6, 7] (fun tp tq wx => ∃ (G H : Nat) (s2a : Bool) (A2a : Option Addr) (n2a c2a : Nat) (s2b : Bool) (A2b : Option Addr) (n2b c2b : Nat), tp = .pointer (some ⟨G, 0, none⟩) ∧ tq = .pointer (some ⟨H, 0, none⟩) ∧ P2 33 wx G (.bool s2a) (.slice A2a n2a c2a) ∧ P2 33 wx H (.bool s2b) (.slice A2b n2b c2b) ∧ PI wx s2a A2a n2a c2a (q) ∧ PI wx s2b A2b n2b c2b (s) ∧ Below W.heap.size W wx)
 case first =>
  have HX_0 := HXX2
  obtain ⟨v0, hv0⟩ := nmz (World.drew W)
  have HD0 := hJ (show Below W.heap.size W v0 by rw [← hv0]; exact (Below.refl _ _).drew)
  have a_0 := hJ ((HRa.out).new HD0.out)
  have b_0 := hJ ((HRb.out).new HD0.out)
  refine wp_region_held_drew (S := (fun w' : World => w'.cell? ⟨h, 0, none⟩ = some (.bool sa) ∧ w'.cell? ⟨h, 1, none⟩ = some (.slice Aa na ca) ∧ w'.cell? ⟨h, 2, none⟩ = some (.bool sb) ∧ w'.cell? ⟨h, 3, none⟩ = some (.slice Ab nb cb) ∧ w'.cell? ⟨(h + 1), 0, none⟩ = some (.bool sd) ∧ w'.cell? ⟨(h + 1), 1, none⟩ = some (.slice Ad nd cd) ∧ w'.cell? ⟨(h + 1), 2, none⟩ = some (.bool se) ∧ w'.cell? ⟨(h + 1), 3, none⟩ = some (.slice Ae ne ce) ∧ Below W.heap.size W w')) (by kernel_rfl) ?_ (fun hHeld => ?_)
  ·rw [hv0]
   exact HS2.out _ HD0.out
  rw [hv0] at hHeld ⊢
  clear hv0 HX_0
  refine tq 0 ?_
  try simp only [PT]
  refine tq 2 ?_
  try simp only [PT]
  refine wpAnyH_name (fun F hF a0 ha0 L0 hL0 => ?_)
  have J1_3_4_5 : ∀ (s2a : Bool) (A2a : Option Addr) (n2a : Nat) (c2a : Nat) (s2b : Bool) (A2b : Option Addr) (n2b : Nat) (c2b : Nat) (gx : Nat) (gy : Nat) (v : World), Hid (Below W.heap.size W v) → Hid (PF v sa Aa na ca sb Ab nb cb p q) → Hid (PF v sd Ad nd cd se Ae ne ce r s) → Hid (PI v s2a A2a n2a c2a (q)) → Hid (PI v s2b A2b n2b c2b (s)) → Hid (P2 33 v gx (.bool false) (.slice none 0 0)) → Hid (W.heap.size ≤ gx) → Hid (P2 33 v gy (.bool false) (.slice none 0 0)) → Hid (W.heap.size ≤ gy) → Hid (gx ≠ gy) → F 2 (Array.setIfInBounds (Array.setIfInBounds (Array.setIfInBounds (Array.setIfInBounds L0 1 true) 3 true) 4 true) 5 true) (Act.put (Act.put (Act.put (Act.put a0 (some 22) (.agg #[.bool s2a, .slice A2a n2a c2a])) (some 24) (.agg #[.bool s2b, .slice A2b n2b c2b])) (some 6) (.pointer (some ⟨gx, 0, none⟩))) (some 7) (.pointer (some ⟨gy, 0, none⟩))) v := by
   intro s2a A2a n2a c2a s2b A2b n2b c2b gx gy v HX_j a_j b_j N0_j N1_j HP_x_j HG_x_j HP_y_j HG_y_j HN_x_y_j
   subst hF ha0 hL0
   simp only [PT] at  ⊢
   have hHeld := HS2.out _ HX_j.out
   refine wpAnyH_ready (rs := [6]) (by kernel_rfl) (by simp) ?_
   refine .cons rfl (fun K hK => ?_) .nil
   obtain ⟨z0, z1⟩ := HP_x_j.out.cells
   have y0 := HP_x_j.out.frozen 0
   have y1 := HP_x_j.out.frozen 1
   have z9 := HP_x_j.out.lt
   go_simp
   obtain ⟨v1, hV⟩ := nmz (World.setCell (World.setCell v ⟨gx, 0, none⟩ (.bool s2a)) ⟨gx, 1, none⟩ (.slice A2a n2a c2a))
   rw [hV]
   have HX_1 := hJ (show Below W.heap.size W v1 by rw [← hV]; exact below_box HX_j.out (HG_x_j.out) _ _)
   have a_1 := hJ (show PF v1 sa Aa na ca sb Ab nb cb p q by rw [← hV]; exact PF.box (a_j.out) (HP_x_j.out) (.bool s2a) (.slice A2a n2a c2a))
   have b_1 := hJ (show PF v1 sd Ad nd cd se Ae ne ce r s by rw [← hV]; exact PF.box (b_j.out) (HP_x_j.out) (.bool s2a) (.slice A2a n2a c2a))
   have N0_1 := hJ (show PI v1 s2a A2a n2a c2a (q) by rw [← hV]; exact PIo.box (N0_j.out) (HP_x_j.out) rfl rfl (.bool s2a) (.slice A2a n2a c2a))
   have N1_1 := hJ (show PI v1 s2b A2b n2b c2b (s) by rw [← hV]; exact PIo.box (N1_j.out) (HP_x_j.out) rfl rfl (.bool s2a) (.slice A2a n2a c2a))
   have HP_y_1 := hJ (show P2 33 v1 gy (.bool false) (.slice none 0 0) by rw [← hV]; exact HP_y_j.out.far2 (show gy ≠ gx from HN_x_y_j.out.symm) (.bool s2a) (.slice A2a n2a c2a))
   have HP_x_1 := hJ (show P2 33 v1 gx (.bool s2a) (.slice A2a n2a c2a) by rw [← hV]; exact HP_x_j.out.all (.bool s2a) (.slice A2a n2a c2a))
   clear hHeld
   refine hK.out _ _ (HS2.out _ HX_1.out) (fun hHeld => ?_)
   clear hK K hV z9 z0 z1 y0 y1 HX_j a_j b_j N0_j N1_j HP_y_j HP_x_j
   try simp only [PT]
   refine wpAnyH_ready (rs := [7]) (by kernel_rfl) (by simp) ?_
   refine .cons rfl (fun K hK => ?_) .nil
   obtain ⟨z0, z1⟩ := HP_y_1.out.cells
   have y0 := HP_y_1.out.frozen 0
   have y1 := HP_y_1.out.frozen 1
   have z9 := HP_y_1.out.lt
   go_simp
   obtain ⟨v2, hV⟩ := nmz (World.setCell (World.setCell v1 ⟨gy, 0, none⟩ (.bool s2b)) ⟨gy, 1, none⟩ (.slice A2b n2b c2b))
   rw [hV]
   have HX_2 := hJ (show Below W.heap.size W v2 by rw [← hV]; exact below_box HX_1.out (HG_y_j.out) _ _)
   have a_2 := hJ (show PF v2 sa Aa na ca sb Ab nb cb p q by rw [← hV]; exact PF.box (a_1.out) (HP_y_1.out) (.bool s2b) (.slice A2b n2b c2b))
   have b_2 := hJ (show PF v2 sd Ad nd cd se Ae ne ce r s by rw [← hV]; exact PF.box (b_1.out) (HP_y_1.out) (.bool s2b) (.slice A2b n2b c2b))
   have N0_2 := hJ (show PI v2 s2a A2a n2a c2a (q) by rw [← hV]; exact PIo.box (N0_1.out) (HP_y_1.out) rfl rfl (.bool s2b) (.slice A2b n2b c2b))
   have N1_2 := hJ (show PI v2 s2b A2b n2b c2b (s) by rw [← hV]; exact PIo.box (N1_1.out) (HP_y_1.out) rfl rfl (.bool s2b) (.slice A2b n2b c2b))
   have HP_x_2 := hJ (show P2 33 v2 gx (.bool s2a) (.slice A2a n2a c2a) by rw [← hV]; exact HP_x_1.out.far2 (show gx ≠ gy from HN_x_y_j.out) (.bool s2b) (.slice A2b n2b c2b))
   have HP_y_2 := hJ (show P2 33 v2 gy (.bool s2b) (.slice A2b n2b c2b) by rw [← hV]; exact HP_y_1.out.all (.bool s2b) (.slice A2b n2b c2b))
   clear hHeld
   refine hK.out _ _ (HS2.out _ HX_2.out) (fun hHeld => ?_)
   clear hK K hV z9 z0 z1 y0 y1 HX_1 a_1 b_1 N0_1 N1_1 HP_x_1 HP_y_1
   try simp only [PT]
   refine wpAnyH_done (by kernel_rfl) ?_ _
   clear hHeld
   go_wp2_with fail
   go_meet
   exact ⟨gx, gy, s2a, A2a, n2a, c2a, s2b, A2b, n2b, c2b, rfl, rfl, HP_x_2.out, HP_y_2.out, N0_2.out, N1_2.out, HX_2.out⟩
  have J1_3_4 : ∀ (s2a : Bool) (A2a : Option Addr) (n2a : Nat) (c2a : Nat) (s2b : Bool) (A2b : Option Addr) (n2b : Nat) (c2b : Nat) (gx : Nat) (v : World), Hid (Below W.heap.size W v) → Hid (PF v sa Aa na ca sb Ab nb cb p q) → Hid (PF v sd Ad nd cd se Ae ne ce r s) → Hid (PI v s2a A2a n2a c2a (q)) → Hid (PI v s2b A2b n2b c2b (s)) → Hid (P2 33 v gx (.bool false) (.slice none 0 0)) → Hid (W.heap.size ≤ gx) → F 3 (Array.setIfInBounds (Array.setIfInBounds (Array.setIfInBounds L0 1 true) 3 true) 4 true) (Act.put (Act.put (Act.put a0 (some 22) (.agg #[.bool s2a, .slice A2a n2a c2a])) (some 24) (.agg #[.bool s2b, .slice A2b n2b c2b])) (some 6) (.pointer (some ⟨gx, 0, none⟩))) v := by
   intro s2a A2a n2a c2a s2b A2b n2b c2b gx v HX_j a_j b_j N0_j N1_j HP_x_j HG_x_j
   subst hF ha0 hL0
   simp only [PT] at J1_3_4_5 ⊢
   have hHeld := HS2.out _ HX_j.out
   refine wpAnyH_ready (rs := [5]) (by kernel_rfl) (by simp) ?_
   refine .cons rfl (fun K hK => ?_) .nil
   go_simp
   have HB_3 := hJ ((Below.refl v.heap.size v).alloc (Nat.le_refl _) (.cells #[.bool false, .slice none 0 0] 33))
   have HP_y_3 := hJ (P2.lit v 33 (.bool false) (.slice none 0 0))
   obtain ⟨v3, hV⟩ := nmz (World.alloc v (.cells #[.bool false, .slice none 0 0] 33))
   obtain ⟨gy, hg⟩ := nmz (v.heap.size)
   rw [hV] at HB_3 HP_y_3  ⊢
   rw [hg] at HP_y_3  ⊢
   have HG_y := hJ (show W.heap.size ≤ gy by rw [← hg]; exact HX_j.out.size)
   have HN_x_y := hJ (show gx ≠ gy by have := HP_x_j.out.lt; rw [hg] at this; omega)
   have HX_3 := hJ (bt HX_j.out HB_3.out)
   have a_3 := hJ ((a_j.out).new HB_3.out)
   have b_3 := hJ ((b_j.out).new HB_3.out)
   have N0_3 := hJ (PIo.new N0_j.out HB_3.out)
   have N1_3 := hJ (PIo.new N1_j.out HB_3.out)
   have HP_x_3 := hJ (HP_x_j.out.new HB_3.out)
   clear hHeld
   refine hK.out _ _ (HS2.out _ HX_3.out) (fun hHeld => ?_)
   clear hK K hV hg HB_3 HX_j a_j b_j N0_j N1_j HP_x_j
   try simp only [PT]
   exact wpAnyH_cast (by kernel_rfl) (J1_3_4_5 s2a A2a n2a c2a s2b A2b n2b c2b gx gy v3 HX_3 a_3 b_3 N0_3 N1_3 HP_x_3 (hJ (HG_x_j.out)) HP_y_3 (hJ (HG_y.out)) (hJ (HN_x_y.out)))
  have J1_3_5 : ∀ (s2a : Bool) (A2a : Option Addr) (n2a : Nat) (c2a : Nat) (s2b : Bool) (A2b : Option Addr) (n2b : Nat) (c2b : Nat) (gy : Nat) (v : World), Hid (Below W.heap.size W v) → Hid (PF v sa Aa na ca sb Ab nb cb p q) → Hid (PF v sd Ad nd cd se Ae ne ce r s) → Hid (PI v s2a A2a n2a c2a (q)) → Hid (PI v s2b A2b n2b c2b (s)) → Hid (P2 33 v gy (.bool false) (.slice none 0 0)) → Hid (W.heap.size ≤ gy) → F 3 (Array.setIfInBounds (Array.setIfInBounds (Array.setIfInBounds L0 1 true) 3 true) 5 true) (Act.put (Act.put (Act.put a0 (some 22) (.agg #[.bool s2a, .slice A2a n2a c2a])) (some 24) (.agg #[.bool s2b, .slice A2b n2b c2b])) (some 7) (.pointer (some ⟨gy, 0, none⟩))) v := by
   intro s2a A2a n2a c2a s2b A2b n2b c2b gy v HX_j a_j b_j N0_j N1_j HP_y_j HG_y_j
   subst hF ha0 hL0
   simp only [PT] at J1_3_4_5 ⊢
   have hHeld := HS2.out _ HX_j.out
   refine wpAnyH_ready (rs := [4]) (by kernel_rfl) (by simp) ?_
   refine .cons rfl (fun K hK => ?_) .nil
   go_simp
   have HB_4 := hJ ((Below.refl v.heap.size v).alloc (Nat.le_refl _) (.cells #[.bool false, .slice none 0 0] 33))
   have HP_x_4 := hJ (P2.lit v 33 (.bool false) (.slice none 0 0))
   obtain ⟨v4, hV⟩ := nmz (World.alloc v (.cells #[.bool false, .slice none 0 0] 33))
   obtain ⟨gx, hg⟩ := nmz (v.heap.size)
   rw [hV] at HB_4 HP_x_4  ⊢
   rw [hg] at HP_x_4  ⊢
   have HG_x := hJ (show W.heap.size ≤ gx by rw [← hg]; exact HX_j.out.size)
   have HN_y_x := hJ (show gy ≠ gx by have := HP_y_j.out.lt; rw [hg] at this; omega)
   have HX_4 := hJ (bt HX_j.out HB_4.out)
   have a_4 := hJ ((a_j.out).new HB_4.out)
   have b_4 := hJ ((b_j.out).new HB_4.out)
   have N0_4 := hJ (PIo.new N0_j.out HB_4.out)
   have N1_4 := hJ (PIo.new N1_j.out HB_4.out)
   have HP_y_4 := hJ (HP_y_j.out.new HB_4.out)
   clear hHeld
   refine hK.out _ _ (HS2.out _ HX_4.out) (fun hHeld => ?_)
   clear hK K hV hg HB_4 HX_j a_j b_j N0_j N1_j HP_y_j
   try simp only [PT]
   exact wpAnyH_cast (by kernel_rfl) (J1_3_4_5 s2a A2a n2a c2a s2b A2b n2b c2b gx gy v4 HX_4 a_4 b_4 N0_4 N1_4 HP_x_4 (hJ (HG_x.out)) HP_y_4 (hJ (HG_y_j.out)) (hJ (HN_y_x.out.symm)))
  have J1_4_5 : ∀ (s2a : Bool) (A2a : Option Addr) (n2a : Nat) (c2a : Nat) (gx : Nat) (gy : Nat) (v : World), Hid (Below W.heap.size W v) → Hid (PF v sa Aa na ca sb Ab nb cb p q) → Hid (PF v sd Ad nd cd se Ae ne ce r s) → Hid (PI v s2a A2a n2a c2a (q)) → Hid (P2 33 v gx (.bool false) (.slice none 0 0)) → Hid (W.heap.size ≤ gx) → Hid (P2 33 v gy (.bool false) (.slice none 0 0)) → Hid (W.heap.size ≤ gy) → Hid (gx ≠ gy) → F 3 (Array.setIfInBounds (Array.setIfInBounds (Array.setIfInBounds L0 1 true) 4 true) 5 true) (Act.put (Act.put (Act.put a0 (some 22) (.agg #[.bool s2a, .slice A2a n2a c2a])) (some 6) (.pointer (some ⟨gx, 0, none⟩))) (some 7) (.pointer (some ⟨gy, 0, none⟩))) v := by
   intro s2a A2a n2a c2a gx gy v HX_j a_j b_j N0_j HP_x_j HG_x_j HP_y_j HG_y_j HN_x_y_j
   subst hF ha0 hL0
   simp only [PT] at J1_3_4_5 ⊢
   have hHeld := HS2.out _ HX_j.out
   refine wpAnyH_ready (rs := [3]) (by kernel_rfl) (by simp) ?_
   refine .cons rfl (fun K hK => ?_) .nil
   go_simp
   go_at_call_of 51 (#[Value.agg #[.bool sd, .slice Ad nd cd, .bool se, .slice Ae ne ce]])
   refine (den_any r s sd se Ad Ae nd cd ne ce v (b_j.out) (by omega) HL0.out.2.1).mono ?_
   rintro e v5 ⟨s2b, A2b, n2b, c2b, rfl, hr, hk⟩
   have N1_5 := hJ (hr)
   have HB_5 := hJ hk
   go_wp2_with fail
   have HX_5 := hJ (bt HX_j.out HB_5.out)
   have a_5 := hJ ((a_j.out).new HB_5.out)
   have b_5 := hJ ((b_j.out).new HB_5.out)
   have N0_5 := hJ (PIo.new N0_j.out HB_5.out)
   have HP_x_5 := hJ (HP_x_j.out.new HB_5.out)
   have HP_y_5 := hJ (HP_y_j.out.new HB_5.out)
   clear hHeld
   refine hK.out _ _ (HS2.out _ HX_5.out) (fun hHeld => ?_)
   clear hK K hk HB_5 hr HX_j a_j b_j N0_j HP_x_j HP_y_j
   try simp only [PT]
   exact wpAnyH_cast (by kernel_rfl) (J1_3_4_5 s2a A2a n2a c2a s2b A2b n2b c2b gx gy v5 HX_5 a_5 b_5 N0_5 N1_5 HP_x_5 (hJ (HG_x_j.out)) HP_y_5 (hJ (HG_y_j.out)) (hJ (HN_x_y_j.out)))
  have J1_3 : ∀ (s2a : Bool) (A2a : Option Addr) (n2a : Nat) (c2a : Nat) (s2b : Bool) (A2b : Option Addr) (n2b : Nat) (c2b : Nat) (v : World), Hid (Below W.heap.size W v) → Hid (PF v sa Aa na ca sb Ab nb cb p q) → Hid (PF v sd Ad nd cd se Ae ne ce r s) → Hid (PI v s2a A2a n2a c2a (q)) → Hid (PI v s2b A2b n2b c2b (s)) → F 4 (Array.setIfInBounds (Array.setIfInBounds L0 1 true) 3 true) (Act.put (Act.put a0 (some 22) (.agg #[.bool s2a, .slice A2a n2a c2a])) (some 24) (.agg #[.bool s2b, .slice A2b n2b c2b])) v := by
   intro s2a A2a n2a c2a s2b A2b n2b c2b v HX_j a_j b_j N0_j N1_j
   subst hF ha0 hL0
   simp only [PT] at J1_3_4 J1_3_5 ⊢
   have hHeld := HS2.out _ HX_j.out
   refine wpAnyH_ready (rs := [4, 5]) (by kernel_rfl) (by simp) ?_
   refine .cons rfl (fun K hK => ?_) ?_
   go_simp
   have HB_6 := hJ ((Below.refl v.heap.size v).alloc (Nat.le_refl _) (.cells #[.bool false, .slice none 0 0] 33))
   have HP_x_6 := hJ (P2.lit v 33 (.bool false) (.slice none 0 0))
   obtain ⟨v6, hV⟩ := nmz (World.alloc v (.cells #[.bool false, .slice none 0 0] 33))
   obtain ⟨gx, hg⟩ := nmz (v.heap.size)
   rw [hV] at HB_6 HP_x_6  ⊢
   rw [hg] at HP_x_6  ⊢
   have HG_x := hJ (show W.heap.size ≤ gx by rw [← hg]; exact HX_j.out.size)
   have HX_6 := hJ (bt HX_j.out HB_6.out)
   have a_6 := hJ ((a_j.out).new HB_6.out)
   have b_6 := hJ ((b_j.out).new HB_6.out)
   have N0_6 := hJ (PIo.new N0_j.out HB_6.out)
   have N1_6 := hJ (PIo.new N1_j.out HB_6.out)
   clear hHeld
   refine hK.out _ _ (HS2.out _ HX_6.out) (fun hHeld => ?_)
   clear hK K hV hg HB_6 HX_j a_j b_j N0_j N1_j
   try simp only [PT]
   exact wpAnyH_cast (by kernel_rfl) (J1_3_4 s2a A2a n2a c2a s2b A2b n2b c2b gx v6 HX_6 a_6 b_6 N0_6 N1_6 HP_x_6 (hJ (HG_x.out)))
   refine .cons rfl (fun K hK => ?_) .nil
   go_simp
   have HB_7 := hJ ((Below.refl v.heap.size v).alloc (Nat.le_refl _) (.cells #[.bool false, .slice none 0 0] 33))
   have HP_y_7 := hJ (P2.lit v 33 (.bool false) (.slice none 0 0))
   obtain ⟨v7, hV⟩ := nmz (World.alloc v (.cells #[.bool false, .slice none 0 0] 33))
   obtain ⟨gy, hg⟩ := nmz (v.heap.size)
   rw [hV] at HB_7 HP_y_7  ⊢
   rw [hg] at HP_y_7  ⊢
   have HG_y := hJ (show W.heap.size ≤ gy by rw [← hg]; exact HX_j.out.size)
   have HX_7 := hJ (bt HX_j.out HB_7.out)
   have a_7 := hJ ((a_j.out).new HB_7.out)
   have b_7 := hJ ((b_j.out).new HB_7.out)
   have N0_7 := hJ (PIo.new N0_j.out HB_7.out)
   have N1_7 := hJ (PIo.new N1_j.out HB_7.out)
   clear hHeld
   refine hK.out _ _ (HS2.out _ HX_7.out) (fun hHeld => ?_)
   clear hK K hV hg HB_7 HX_j a_j b_j N0_j N1_j
   try simp only [PT]
   exact wpAnyH_cast (by kernel_rfl) (J1_3_5 s2a A2a n2a c2a s2b A2b n2b c2b gy v7 HX_7 a_7 b_7 N0_7 N1_7 HP_y_7 (hJ (HG_y.out)))
  have J1_4 : ∀ (s2a : Bool) (A2a : Option Addr) (n2a : Nat) (c2a : Nat) (gx : Nat) (v : World), Hid (Below W.heap.size W v) → Hid (PF v sa Aa na ca sb Ab nb cb p q) → Hid (PF v sd Ad nd cd se Ae ne ce r s) → Hid (PI v s2a A2a n2a c2a (q)) → Hid (P2 33 v gx (.bool false) (.slice none 0 0)) → Hid (W.heap.size ≤ gx) → F 4 (Array.setIfInBounds (Array.setIfInBounds L0 1 true) 4 true) (Act.put (Act.put a0 (some 22) (.agg #[.bool s2a, .slice A2a n2a c2a])) (some 6) (.pointer (some ⟨gx, 0, none⟩))) v := by
   intro s2a A2a n2a c2a gx v HX_j a_j b_j N0_j HP_x_j HG_x_j
   subst hF ha0 hL0
   simp only [PT] at J1_3_4 J1_4_5 ⊢
   have hHeld := HS2.out _ HX_j.out
   refine wpAnyH_ready (rs := [3, 5]) (by kernel_rfl) (by simp) ?_
   refine .cons rfl (fun K hK => ?_) ?_
   go_simp
   go_at_call_of 51 (#[Value.agg #[.bool sd, .slice Ad nd cd, .bool se, .slice Ae ne ce]])
   refine (den_any r s sd se Ad Ae nd cd ne ce v (b_j.out) (by omega) HL0.out.2.1).mono ?_
   rintro e v8 ⟨s2b, A2b, n2b, c2b, rfl, hr, hk⟩
   have N1_8 := hJ (hr)
   have HB_8 := hJ hk
   go_wp2_with fail
   have HX_8 := hJ (bt HX_j.out HB_8.out)
   have a_8 := hJ ((a_j.out).new HB_8.out)
   have b_8 := hJ ((b_j.out).new HB_8.out)
   have N0_8 := hJ (PIo.new N0_j.out HB_8.out)
   have HP_x_8 := hJ (HP_x_j.out.new HB_8.out)
   clear hHeld
   refine hK.out _ _ (HS2.out _ HX_8.out) (fun hHeld => ?_)
   clear hK K hk HB_8 hr HX_j a_j b_j N0_j HP_x_j
   try simp only [PT]
   exact wpAnyH_cast (by kernel_rfl) (J1_3_4 s2a A2a n2a c2a s2b A2b n2b c2b gx v8 HX_8 a_8 b_8 N0_8 N1_8 HP_x_8 (hJ (HG_x_j.out)))
   refine .cons rfl (fun K hK => ?_) .nil
   go_simp
   have HB_9 := hJ ((Below.refl v.heap.size v).alloc (Nat.le_refl _) (.cells #[.bool false, .slice none 0 0] 33))
   have HP_y_9 := hJ (P2.lit v 33 (.bool false) (.slice none 0 0))
   obtain ⟨v9, hV⟩ := nmz (World.alloc v (.cells #[.bool false, .slice none 0 0] 33))
   obtain ⟨gy, hg⟩ := nmz (v.heap.size)
   rw [hV] at HB_9 HP_y_9  ⊢
   rw [hg] at HP_y_9  ⊢
   have HG_y := hJ (show W.heap.size ≤ gy by rw [← hg]; exact HX_j.out.size)
   have HN_x_y := hJ (show gx ≠ gy by have := HP_x_j.out.lt; rw [hg] at this; omega)
   have HX_9 := hJ (bt HX_j.out HB_9.out)
   have a_9 := hJ ((a_j.out).new HB_9.out)
   have b_9 := hJ ((b_j.out).new HB_9.out)
   have N0_9 := hJ (PIo.new N0_j.out HB_9.out)
   have HP_x_9 := hJ (HP_x_j.out.new HB_9.out)
   clear hHeld
   refine hK.out _ _ (HS2.out _ HX_9.out) (fun hHeld => ?_)
   clear hK K hV hg HB_9 HX_j a_j b_j N0_j HP_x_j
   try simp only [PT]
   exact wpAnyH_cast (by kernel_rfl) (J1_4_5 s2a A2a n2a c2a gx gy v9 HX_9 a_9 b_9 N0_9 HP_x_9 (hJ (HG_x_j.out)) HP_y_9 (hJ (HG_y.out)) (hJ (HN_x_y.out)))
  have J1_5 : ∀ (s2a : Bool) (A2a : Option Addr) (n2a : Nat) (c2a : Nat) (gy : Nat) (v : World), Hid (Below W.heap.size W v) → Hid (PF v sa Aa na ca sb Ab nb cb p q) → Hid (PF v sd Ad nd cd se Ae ne ce r s) → Hid (PI v s2a A2a n2a c2a (q)) → Hid (P2 33 v gy (.bool false) (.slice none 0 0)) → Hid (W.heap.size ≤ gy) → F 4 (Array.setIfInBounds (Array.setIfInBounds L0 1 true) 5 true) (Act.put (Act.put a0 (some 22) (.agg #[.bool s2a, .slice A2a n2a c2a])) (some 7) (.pointer (some ⟨gy, 0, none⟩))) v := by
   intro s2a A2a n2a c2a gy v HX_j a_j b_j N0_j HP_y_j HG_y_j
   subst hF ha0 hL0
   simp only [PT] at J1_3_5 J1_4_5 ⊢
   have hHeld := HS2.out _ HX_j.out
   refine wpAnyH_ready (rs := [3, 4]) (by kernel_rfl) (by simp) ?_
   refine .cons rfl (fun K hK => ?_) ?_
   go_simp
   go_at_call_of 51 (#[Value.agg #[.bool sd, .slice Ad nd cd, .bool se, .slice Ae ne ce]])
   refine (den_any r s sd se Ad Ae nd cd ne ce v (b_j.out) (by omega) HL0.out.2.1).mono ?_
   rintro e v10 ⟨s2b, A2b, n2b, c2b, rfl, hr, hk⟩
   have N1_10 := hJ (hr)
   have HB_10 := hJ hk
   go_wp2_with fail
   have HX_10 := hJ (bt HX_j.out HB_10.out)
   have a_10 := hJ ((a_j.out).new HB_10.out)
   have b_10 := hJ ((b_j.out).new HB_10.out)
   have N0_10 := hJ (PIo.new N0_j.out HB_10.out)
   have HP_y_10 := hJ (HP_y_j.out.new HB_10.out)
   clear hHeld
   refine hK.out _ _ (HS2.out _ HX_10.out) (fun hHeld => ?_)
   clear hK K hk HB_10 hr HX_j a_j b_j N0_j HP_y_j
   try simp only [PT]
   exact wpAnyH_cast (by kernel_rfl) (J1_3_5 s2a A2a n2a c2a s2b A2b n2b c2b gy v10 HX_10 a_10 b_10 N0_10 N1_10 HP_y_10 (hJ (HG_y_j.out)))
   refine .cons rfl (fun K hK => ?_) .nil
   go_simp
   have HB_11 := hJ ((Below.refl v.heap.size v).alloc (Nat.le_refl _) (.cells #[.bool false, .slice none 0 0] 33))
   have HP_x_11 := hJ (P2.lit v 33 (.bool false) (.slice none 0 0))
   obtain ⟨v11, hV⟩ := nmz (World.alloc v (.cells #[.bool false, .slice none 0 0] 33))
   obtain ⟨gx, hg⟩ := nmz (v.heap.size)
   rw [hV] at HB_11 HP_x_11  ⊢
   rw [hg] at HP_x_11  ⊢
   have HG_x := hJ (show W.heap.size ≤ gx by rw [← hg]; exact HX_j.out.size)
   have HN_y_x := hJ (show gy ≠ gx by have := HP_y_j.out.lt; rw [hg] at this; omega)
   have HX_11 := hJ (bt HX_j.out HB_11.out)
   have a_11 := hJ ((a_j.out).new HB_11.out)
   have b_11 := hJ ((b_j.out).new HB_11.out)
   have N0_11 := hJ (PIo.new N0_j.out HB_11.out)
   have HP_y_11 := hJ (HP_y_j.out.new HB_11.out)
   clear hHeld
   refine hK.out _ _ (HS2.out _ HX_11.out) (fun hHeld => ?_)
   clear hK K hV hg HB_11 HX_j a_j b_j N0_j HP_y_j
   try simp only [PT]
   exact wpAnyH_cast (by kernel_rfl) (J1_4_5 s2a A2a n2a c2a gx gy v11 HX_11 a_11 b_11 N0_11 HP_x_11 (hJ (HG_x.out)) HP_y_11 (hJ (HG_y_j.out)) (hJ (HN_y_x.out.symm)))
  have J4_5 : ∀ (gx : Nat) (gy : Nat) (v : World), Hid (Below W.heap.size W v) → Hid (PF v sa Aa na ca sb Ab nb cb p q) → Hid (PF v sd Ad nd cd se Ae ne ce r s) → Hid (P2 33 v gx (.bool false) (.slice none 0 0)) → Hid (W.heap.size ≤ gx) → Hid (P2 33 v gy (.bool false) (.slice none 0 0)) → Hid (W.heap.size ≤ gy) → Hid (gx ≠ gy) → F 4 (Array.setIfInBounds (Array.setIfInBounds L0 4 true) 5 true) (Act.put (Act.put a0 (some 6) (.pointer (some ⟨gx, 0, none⟩))) (some 7) (.pointer (some ⟨gy, 0, none⟩))) v := by
   intro gx gy v HX_j a_j b_j HP_x_j HG_x_j HP_y_j HG_y_j HN_x_y_j
   subst hF ha0 hL0
   simp only [PT] at J1_4_5 ⊢
   have hHeld := HS2.out _ HX_j.out
   refine wpAnyH_ready (rs := [1]) (by kernel_rfl) (by simp) ?_
   refine .cons rfl (fun K hK => ?_) .nil
   go_simp
   go_at_call_of 51 (#[Value.agg #[.bool sa, .slice Aa na ca, .bool sb, .slice Ab nb cb]])
   refine (den_any p q sa sb Aa Ab na ca nb cb v (a_j.out) (by omega) HL0.out.1).mono ?_
   rintro e v12 ⟨s2a, A2a, n2a, c2a, rfl, hr, hk⟩
   have N0_12 := hJ (hr)
   have HB_12 := hJ hk
   go_wp2_with fail
   have HX_12 := hJ (bt HX_j.out HB_12.out)
   have a_12 := hJ ((a_j.out).new HB_12.out)
   have b_12 := hJ ((b_j.out).new HB_12.out)
   have HP_x_12 := hJ (HP_x_j.out.new HB_12.out)
   have HP_y_12 := hJ (HP_y_j.out.new HB_12.out)
   clear hHeld
   refine hK.out _ _ (HS2.out _ HX_12.out) (fun hHeld => ?_)
   clear hK K hk HB_12 hr HX_j a_j b_j HP_x_j HP_y_j
   try simp only [PT]
   exact wpAnyH_cast (by kernel_rfl) (J1_4_5 s2a A2a n2a c2a gx gy v12 HX_12 a_12 b_12 N0_12 HP_x_12 (hJ (HG_x_j.out)) HP_y_12 (hJ (HG_y_j.out)) (hJ (HN_x_y_j.out)))
  have J1 : ∀ (s2a : Bool) (A2a : Option Addr) (n2a : Nat) (c2a : Nat) (v : World), Hid (Below W.heap.size W v) → Hid (PF v sa Aa na ca sb Ab nb cb p q) → Hid (PF v sd Ad nd cd se Ae ne ce r s) → Hid (PI v s2a A2a n2a c2a (q)) → F 5 (Array.setIfInBounds L0 1 true) (Act.put a0 (some 22) (.agg #[.bool s2a, .slice A2a n2a c2a])) v := by
   intro s2a A2a n2a c2a v HX_j a_j b_j N0_j
   subst hF ha0 hL0
   simp only [PT] at J1_3 J1_4 J1_5 ⊢
   have hHeld := HS2.out _ HX_j.out
   refine wpAnyH_ready (rs := [3, 4, 5]) (by kernel_rfl) (by simp) ?_
   refine .cons rfl (fun K hK => ?_) ?_
   go_simp
   go_at_call_of 51 (#[Value.agg #[.bool sd, .slice Ad nd cd, .bool se, .slice Ae ne ce]])
   refine (den_any r s sd se Ad Ae nd cd ne ce v (b_j.out) (by omega) HL0.out.2.1).mono ?_
   rintro e v13 ⟨s2b, A2b, n2b, c2b, rfl, hr, hk⟩
   have N1_13 := hJ (hr)
   have HB_13 := hJ hk
   go_wp2_with fail
   have HX_13 := hJ (bt HX_j.out HB_13.out)
   have a_13 := hJ ((a_j.out).new HB_13.out)
   have b_13 := hJ ((b_j.out).new HB_13.out)
   have N0_13 := hJ (PIo.new N0_j.out HB_13.out)
   clear hHeld
   refine hK.out _ _ (HS2.out _ HX_13.out) (fun hHeld => ?_)
   clear hK K hk HB_13 hr HX_j a_j b_j N0_j
   try simp only [PT]
   exact wpAnyH_cast (by kernel_rfl) (J1_3 s2a A2a n2a c2a s2b A2b n2b c2b v13 HX_13 a_13 b_13 N0_13 N1_13)
   refine .cons rfl (fun K hK => ?_) ?_
   go_simp
   have HB_14 := hJ ((Below.refl v.heap.size v).alloc (Nat.le_refl _) (.cells #[.bool false, .slice none 0 0] 33))
   have HP_x_14 := hJ (P2.lit v 33 (.bool false) (.slice none 0 0))
   obtain ⟨v14, hV⟩ := nmz (World.alloc v (.cells #[.bool false, .slice none 0 0] 33))
   obtain ⟨gx, hg⟩ := nmz (v.heap.size)
   rw [hV] at HB_14 HP_x_14  ⊢
   rw [hg] at HP_x_14  ⊢
   have HG_x := hJ (show W.heap.size ≤ gx by rw [← hg]; exact HX_j.out.size)
   have HX_14 := hJ (bt HX_j.out HB_14.out)
   have a_14 := hJ ((a_j.out).new HB_14.out)
   have b_14 := hJ ((b_j.out).new HB_14.out)
   have N0_14 := hJ (PIo.new N0_j.out HB_14.out)
   clear hHeld
   refine hK.out _ _ (HS2.out _ HX_14.out) (fun hHeld => ?_)
   clear hK K hV hg HB_14 HX_j a_j b_j N0_j
   try simp only [PT]
   exact wpAnyH_cast (by kernel_rfl) (J1_4 s2a A2a n2a c2a gx v14 HX_14 a_14 b_14 N0_14 HP_x_14 (hJ (HG_x.out)))
   refine .cons rfl (fun K hK => ?_) .nil
   go_simp
   have HB_15 := hJ ((Below.refl v.heap.size v).alloc (Nat.le_refl _) (.cells #[.bool false, .slice none 0 0] 33))
   have HP_y_15 := hJ (P2.lit v 33 (.bool false) (.slice none 0 0))
   obtain ⟨v15, hV⟩ := nmz (World.alloc v (.cells #[.bool false, .slice none 0 0] 33))
   obtain ⟨gy, hg⟩ := nmz (v.heap.size)
   rw [hV] at HB_15 HP_y_15  ⊢
   rw [hg] at HP_y_15  ⊢
   have HG_y := hJ (show W.heap.size ≤ gy by rw [← hg]; exact HX_j.out.size)
   have HX_15 := hJ (bt HX_j.out HB_15.out)
   have a_15 := hJ ((a_j.out).new HB_15.out)
   have b_15 := hJ ((b_j.out).new HB_15.out)
   have N0_15 := hJ (PIo.new N0_j.out HB_15.out)
   clear hHeld
   refine hK.out _ _ (HS2.out _ HX_15.out) (fun hHeld => ?_)
   clear hK K hV hg HB_15 HX_j a_j b_j N0_j
   try simp only [PT]
   exact wpAnyH_cast (by kernel_rfl) (J1_5 s2a A2a n2a c2a gy v15 HX_15 a_15 b_15 N0_15 HP_y_15 (hJ (HG_y.out)))
  have J4 : ∀ (gx : Nat) (v : World), Hid (Below W.heap.size W v) → Hid (PF v sa Aa na ca sb Ab nb cb p q) → Hid (PF v sd Ad nd cd se Ae ne ce r s) → Hid (P2 33 v gx (.bool false) (.slice none 0 0)) → Hid (W.heap.size ≤ gx) → F 5 (Array.setIfInBounds L0 4 true) (Act.put a0 (some 6) (.pointer (some ⟨gx, 0, none⟩))) v := by
   intro gx v HX_j a_j b_j HP_x_j HG_x_j
   subst hF ha0 hL0
   simp only [PT] at J1_4 J4_5 ⊢
   have hHeld := HS2.out _ HX_j.out
   refine wpAnyH_ready (rs := [1, 5]) (by kernel_rfl) (by simp) ?_
   refine .cons rfl (fun K hK => ?_) ?_
   go_simp
   go_at_call_of 51 (#[Value.agg #[.bool sa, .slice Aa na ca, .bool sb, .slice Ab nb cb]])
   refine (den_any p q sa sb Aa Ab na ca nb cb v (a_j.out) (by omega) HL0.out.1).mono ?_
   rintro e v16 ⟨s2a, A2a, n2a, c2a, rfl, hr, hk⟩
   have N0_16 := hJ (hr)
   have HB_16 := hJ hk
   go_wp2_with fail
   have HX_16 := hJ (bt HX_j.out HB_16.out)
   have a_16 := hJ ((a_j.out).new HB_16.out)
   have b_16 := hJ ((b_j.out).new HB_16.out)
   have HP_x_16 := hJ (HP_x_j.out.new HB_16.out)
   clear hHeld
   refine hK.out _ _ (HS2.out _ HX_16.out) (fun hHeld => ?_)
   clear hK K hk HB_16 hr HX_j a_j b_j HP_x_j
   try simp only [PT]
   exact wpAnyH_cast (by kernel_rfl) (J1_4 s2a A2a n2a c2a gx v16 HX_16 a_16 b_16 N0_16 HP_x_16 (hJ (HG_x_j.out)))
   refine .cons rfl (fun K hK => ?_) .nil
   go_simp
   have HB_17 := hJ ((Below.refl v.heap.size v).alloc (Nat.le_refl _) (.cells #[.bool false, .slice none 0 0] 33))
   have HP_y_17 := hJ (P2.lit v 33 (.bool false) (.slice none 0 0))
   obtain ⟨v17, hV⟩ := nmz (World.alloc v (.cells #[.bool false, .slice none 0 0] 33))
   obtain ⟨gy, hg⟩ := nmz (v.heap.size)
   rw [hV] at HB_17 HP_y_17  ⊢
   rw [hg] at HP_y_17  ⊢
   have HG_y := hJ (show W.heap.size ≤ gy by rw [← hg]; exact HX_j.out.size)
   have HN_x_y := hJ (show gx ≠ gy by have := HP_x_j.out.lt; rw [hg] at this; omega)
   have HX_17 := hJ (bt HX_j.out HB_17.out)
   have a_17 := hJ ((a_j.out).new HB_17.out)
   have b_17 := hJ ((b_j.out).new HB_17.out)
   have HP_x_17 := hJ (HP_x_j.out.new HB_17.out)
   clear hHeld
   refine hK.out _ _ (HS2.out _ HX_17.out) (fun hHeld => ?_)
   clear hK K hV hg HB_17 HX_j a_j b_j HP_x_j
   try simp only [PT]
   exact wpAnyH_cast (by kernel_rfl) (J4_5 gx gy v17 HX_17 a_17 b_17 HP_x_17 (hJ (HG_x_j.out)) HP_y_17 (hJ (HG_y.out)) (hJ (HN_x_y.out)))
  have J5 : ∀ (gy : Nat) (v : World), Hid (Below W.heap.size W v) → Hid (PF v sa Aa na ca sb Ab nb cb p q) → Hid (PF v sd Ad nd cd se Ae ne ce r s) → Hid (P2 33 v gy (.bool false) (.slice none 0 0)) → Hid (W.heap.size ≤ gy) → F 5 (Array.setIfInBounds L0 5 true) (Act.put a0 (some 7) (.pointer (some ⟨gy, 0, none⟩))) v := by
   intro gy v HX_j a_j b_j HP_y_j HG_y_j
   subst hF ha0 hL0
   simp only [PT] at J1_5 J4_5 ⊢
   have hHeld := HS2.out _ HX_j.out
   refine wpAnyH_ready (rs := [1, 4]) (by kernel_rfl) (by simp) ?_
   refine .cons rfl (fun K hK => ?_) ?_
   go_simp
   go_at_call_of 51 (#[Value.agg #[.bool sa, .slice Aa na ca, .bool sb, .slice Ab nb cb]])
   refine (den_any p q sa sb Aa Ab na ca nb cb v (a_j.out) (by omega) HL0.out.1).mono ?_
   rintro e v18 ⟨s2a, A2a, n2a, c2a, rfl, hr, hk⟩
   have N0_18 := hJ (hr)
   have HB_18 := hJ hk
   go_wp2_with fail
   have HX_18 := hJ (bt HX_j.out HB_18.out)
   have a_18 := hJ ((a_j.out).new HB_18.out)
   have b_18 := hJ ((b_j.out).new HB_18.out)
   have HP_y_18 := hJ (HP_y_j.out.new HB_18.out)
   clear hHeld
   refine hK.out _ _ (HS2.out _ HX_18.out) (fun hHeld => ?_)
   clear hK K hk HB_18 hr HX_j a_j b_j HP_y_j
   try simp only [PT]
   exact wpAnyH_cast (by kernel_rfl) (J1_5 s2a A2a n2a c2a gy v18 HX_18 a_18 b_18 N0_18 HP_y_18 (hJ (HG_y_j.out)))
   refine .cons rfl (fun K hK => ?_) .nil
   go_simp
   have HB_19 := hJ ((Below.refl v.heap.size v).alloc (Nat.le_refl _) (.cells #[.bool false, .slice none 0 0] 33))
   have HP_x_19 := hJ (P2.lit v 33 (.bool false) (.slice none 0 0))
   obtain ⟨v19, hV⟩ := nmz (World.alloc v (.cells #[.bool false, .slice none 0 0] 33))
   obtain ⟨gx, hg⟩ := nmz (v.heap.size)
   rw [hV] at HB_19 HP_x_19  ⊢
   rw [hg] at HP_x_19  ⊢
   have HG_x := hJ (show W.heap.size ≤ gx by rw [← hg]; exact HX_j.out.size)
   have HN_y_x := hJ (show gy ≠ gx by have := HP_y_j.out.lt; rw [hg] at this; omega)
   have HX_19 := hJ (bt HX_j.out HB_19.out)
   have a_19 := hJ ((a_j.out).new HB_19.out)
   have b_19 := hJ ((b_j.out).new HB_19.out)
   have HP_y_19 := hJ (HP_y_j.out.new HB_19.out)
   clear hHeld
   refine hK.out _ _ (HS2.out _ HX_19.out) (fun hHeld => ?_)
   clear hK K hV hg HB_19 HX_j a_j b_j HP_y_j
   try simp only [PT]
   exact wpAnyH_cast (by kernel_rfl) (J4_5 gx gy v19 HX_19 a_19 b_19 HP_x_19 (hJ (HG_x.out)) HP_y_19 (hJ (HG_y_j.out)) (hJ (HN_y_x.out.symm)))
  subst hF ha0 hL0
  simp only [PT] at J1 J4 J5
  refine wpAnyH_ready (rs := [1, 4, 5]) (by kernel_rfl) (by simp) ?_
  refine .cons rfl (fun K hK => ?_) ?_
  go_simp
  go_at_call_of 51 (#[Value.agg #[.bool sa, .slice Aa na ca, .bool sb, .slice Ab nb cb]])
  refine (den_any p q sa sb Aa Ab na ca nb cb v0 (a_0.out) (by omega) HL0.out.1).mono ?_
  rintro e v20 ⟨s2a, A2a, n2a, c2a, rfl, hr, hk⟩
  have N0_20 := hJ (hr)
  have HB_20 := hJ hk
  go_wp2_with fail
  have HX_20 := hJ (bt HD0.out HB_20.out)
  have a_20 := hJ ((a_0.out).new HB_20.out)
  have b_20 := hJ ((b_0.out).new HB_20.out)
  clear hHeld
  refine hK.out _ _ (HS2.out _ HX_20.out) (fun hHeld => ?_)
  clear hK K hk HB_20 hr HD0 a_0 b_0
  try simp only [PT]
  exact wpAnyH_cast (by kernel_rfl) (J1 s2a A2a n2a c2a v20 HX_20 a_20 b_20 N0_20)
  refine .cons rfl (fun K hK => ?_) ?_
  go_simp
  have HB_21 := hJ ((Below.refl v0.heap.size v0).alloc (Nat.le_refl _) (.cells #[.bool false, .slice none 0 0] 33))
  have HP_x_21 := hJ (P2.lit v0 33 (.bool false) (.slice none 0 0))
  obtain ⟨v21, hV⟩ := nmz (World.alloc v0 (.cells #[.bool false, .slice none 0 0] 33))
  obtain ⟨gx, hg⟩ := nmz (v0.heap.size)
  rw [hV] at HB_21 HP_x_21  ⊢
  rw [hg] at HP_x_21  ⊢
  have HG_x := hJ (show W.heap.size ≤ gx by rw [← hg]; exact HD0.out.size)
  have HX_21 := hJ (bt HD0.out HB_21.out)
  have a_21 := hJ ((a_0.out).new HB_21.out)
  have b_21 := hJ ((b_0.out).new HB_21.out)
  clear hHeld
  refine hK.out _ _ (HS2.out _ HX_21.out) (fun hHeld => ?_)
  clear hK K hV hg HB_21 HD0 a_0 b_0
  try simp only [PT]
  exact wpAnyH_cast (by kernel_rfl) (J4 gx v21 HX_21 a_21 b_21 HP_x_21 (hJ (HG_x.out)))
  refine .cons rfl (fun K hK => ?_) .nil
  go_simp
  have HB_22 := hJ ((Below.refl v0.heap.size v0).alloc (Nat.le_refl _) (.cells #[.bool false, .slice none 0 0] 33))
  have HP_y_22 := hJ (P2.lit v0 33 (.bool false) (.slice none 0 0))
  obtain ⟨v22, hV⟩ := nmz (World.alloc v0 (.cells #[.bool false, .slice none 0 0] 33))
  obtain ⟨gy, hg⟩ := nmz (v0.heap.size)
  rw [hV] at HB_22 HP_y_22  ⊢
  rw [hg] at HP_y_22  ⊢
  have HG_y := hJ (show W.heap.size ≤ gy by rw [← hg]; exact HD0.out.size)
  have HX_22 := hJ (bt HD0.out HB_22.out)
  have a_22 := hJ ((a_0.out).new HB_22.out)
  have b_22 := hJ ((b_0.out).new HB_22.out)
  clear hHeld
  refine hK.out _ _ (HS2.out _ HX_22.out) (fun hHeld => ?_)
  clear hK K hV hg HB_22 HD0 a_0 b_0
  try simp only [PT]
  exact wpAnyH_cast (by kernel_rfl) (J5 gy v22 HX_22 a_22 b_22 HP_y_22 (hJ (HG_y.out)))
 case rest =>
  obtain ⟨G2, H2, s2a, A2a, n2a, c2a, s2b, A2b, n2b, c2b, rfl, rfl, hq1, hq2, hr1, hr2, hbx⟩ := hcut
  have HQ2a := hJ hq1
  have HQ2b := hJ hq2
  have HR2a := hJ hr1
  have HR2b := hJ hr2
  have HB2 := hJ hbx
  obtain ⟨x2, rfl⟩ := nm_world hbx
  clear hq1 hq2 hr1 hr2 hbx HS2 HXX2
  have hn2a : n2a ≤ 512 := plim HR2a.out HL0.out.2.2.2.1
  have hn2b : n2b ≤ 512 := plim HR2b.out HL0.out.2.2.2.2.2
  have HQa_2 := hJ (HPa.out.new HB2.out)
  have HRa_2 := hJ (HRa.out.new HB2.out)
  have HQd_2 := hJ (HPb.out.new HB2.out)
  have HRd_2 := hJ (HRb.out.new HB2.out)
  have HQz_2 := hJ (HPz.out.new HB2.out)
  have HRz_2 := hJ (HRz.out.new HB2.out)
  have HW_2 := hJ (bt HK.out HB2.out)
  clear HPa HRa HPb HRb HPz HRz HK HB2
  have HGF := hJ (ad_gcd HL0.out.1 HL0.out.2.1 HL0.out.2.2.2.1 HL0.out.2.2.2.2.2)
  obtain ⟨clq0_3, clq1_3⟩ := HQ2a.out.cells
  obtain ⟨cls0_3, cls1_3⟩ := HQ2b.out.cells
  go_wp2_with fail
  refine (fcommon_any q s s2a s2b A2a A2b n2a c2a n2b c2b x2 HR2a.out HR2b.out (by omega) (by omega)).mono ?_
  rintro e w3 ⟨s3, A3, n3, c3, rfl, hr3, hb3⟩
  obtain ⟨x3, hx3⟩ := nmz (w3.alloc (.cells #[.bool s3, .slice A3 n3 c3] 33))
  have HB3 := hJ (show Below x2.heap.size x2 x3 by rw [← hx3]; exact hb3.alloc hb3.size _)
  have HQ3 := hJ (show P2 33 x3 w3.heap.size (.bool s3) (.slice A3 n3 c3) by rw [← hx3]; exact P2.lit _ _ _ _)
  have HR3 := hJ (show PI x3 s3 A3 n3 c3 (adG q s) by rw [← hx3]; exact PIo.new hr3 ((Below.refl _ _).alloc (Nat.le_refl _) _))
  have hn3 : n3 ≤ 512 := plim hr3 (by exact HGF.out.2.1)
  clear hr3 hb3
  have HQa_3 := hJ (HQa_2.out.new HB3.out)
  have HRa_3 := hJ (HRa_2.out.new HB3.out)
  have HQd_3 := hJ (HQd_2.out.new HB3.out)
  have HRd_3 := hJ (HRd_2.out.new HB3.out)
  have HQz_3 := hJ (HQz_2.out.new HB3.out)
  have HRz_3 := hJ (HRz_2.out.new HB3.out)
  have HQ2a_3 := hJ (HQ2a.out.new HB3.out)
  have HR2a_3 := hJ (PIo.new HR2a.out HB3.out)
  have HQ2b_3 := hJ (HQ2b.out.new HB3.out)
  have HR2b_3 := hJ (PIo.new HR2b.out HB3.out)
  have HW_3 := hJ (bt HW_2.out HB3.out)
  clear HQa_2 HRa_2 HQd_2 HRd_2 HQz_2 HRz_2 HQ2a HR2a HQ2b HR2b HW_2 clq0_3 clq1_3 cls0_3 cls1_3 HB3
  obtain ⟨g, hg⟩ : ∃ g, adG q s = g := ⟨_, rfl⟩
  rw [hg] at HGF HR3
  obtain ⟨qp, hqp⟩ : ∃ x, q / g = x := ⟨_, rfl⟩
  obtain ⟨sp, hsp⟩ : ∃ x, s / g = x := ⟨_, rfl⟩
  have HDF := hJ (And.intro hg (And.intro hqp hsp))
  rw [hqp, hsp] at HGF
  clear hg hqp hsp
  have HS4 : Hid (∀ w', Below x3.heap.size x3 w' → (fun w' : World => w'.cell? ⟨G2, 0, none⟩ = some (.bool s2a) ∧ w'.cell? ⟨G2, 1, none⟩ = some (.slice A2a n2a c2a) ∧ w'.cell? ⟨H2, 0, none⟩ = some (.bool s2b) ∧ w'.cell? ⟨H2, 1, none⟩ = some (.slice A2b n2b c2b) ∧ w'.cell? ⟨w3.heap.size, 0, none⟩ = some (.bool s3) ∧ w'.cell? ⟨w3.heap.size, 1, none⟩ = some (.slice A3 n3 c3) ∧ Below x3.heap.size x3 w') w') := hJ (fun w' hb => ⟨(HQ2a_3.out.new hb).cells.1, (HQ2a_3.out.new hb).cells.2, (HQ2b_3.out.new hb).cells.1, (HQ2b_3.out.new hb).cells.2, (HQ3.out.new hb).cells.1, (HQ3.out.new hb).cells.2, hb⟩)
  have HXX4 := hJ (Below.refl x3.heap.size x3)
  go_upto_region 3 with fail
  clear hx3
  go_cut [9, 10] (fun tp tq wx => ∃ (G H : Nat) (s4a : Bool) (A4a : Option Addr) (n4a c4a : Nat) (s4b : Bool) (A4b : Option Addr) (n4b c4b : Nat), tp = .pointer (some ⟨G, 0, none⟩) ∧ tq = .pointer (some ⟨H, 0, none⟩) ∧ P2 33 wx G (.bool s4a) (.slice A4a n4a c4a) ∧ P2 33 wx H (.bool s4b) (.slice A4b n4b c4b) ∧ PI wx s4a A4a n4a c4a (q / g) ∧ PI wx s4b A4b n4b c4b (s / g) ∧ Below x3.heap.size x3 wx)
  case first =>
   have HX_0 := HXX4
   obtain ⟨v0, hv0⟩ := nmz (World.drew x3)
   have HD0 := hJ (show Below x3.heap.size x3 v0 by rw [← hv0]; exact (Below.refl _ _).drew)
   have q_0 := hJ (PIo.new HR2a_3.out HD0.out)
   have s_0 := hJ (PIo.new HR2b_3.out HD0.out)
   have g_0 := hJ (PIo.new HR3.out HD0.out)
   refine wp_region_held_drew (S := (fun w' : World => w'.cell? ⟨G2, 0, none⟩ = some (.bool s2a) ∧ w'.cell? ⟨G2, 1, none⟩ = some (.slice A2a n2a c2a) ∧ w'.cell? ⟨H2, 0, none⟩ = some (.bool s2b) ∧ w'.cell? ⟨H2, 1, none⟩ = some (.slice A2b n2b c2b) ∧ w'.cell? ⟨w3.heap.size, 0, none⟩ = some (.bool s3) ∧ w'.cell? ⟨w3.heap.size, 1, none⟩ = some (.slice A3 n3 c3) ∧ Below x3.heap.size x3 w')) (by kernel_rfl) ?_ (fun hHeld => ?_)
   ·rw [hv0]
    exact HS4.out _ HD0.out
   rw [hv0] at hHeld ⊢
   clear hv0 HX_0
   refine tq 0 ?_
   try simp only [PT]
   refine tq 1 ?_
   try simp only [PT]
   refine tq 3 ?_
   try simp only [PT]
   refine tq 4 ?_
   try simp only [PT]
   refine wpAnyH_name (fun F hF a0 ha0 L0 hL0 => ?_)
   have J2_5_6_7 : ∀ (s4a : Bool) (A4a : Option Addr) (n4a : Nat) (c4a : Nat) (s4b : Bool) (A4b : Option Addr) (n4b : Nat) (c4b : Nat) (gx : Nat) (gy : Nat) (v : World), Hid (Below x3.heap.size x3 v) → Hid (PI v s2a A2a n2a c2a (q)) → Hid (PI v s2b A2b n2b c2b (s)) → Hid (PI v s3 A3 n3 c3 (g)) → Hid (PI v s4a A4a n4a c4a (q / g)) → Hid (PI v s4b A4b n4b c4b (s / g)) → Hid (P2 33 v gx (.bool false) (.slice none 0 0)) → Hid (x3.heap.size ≤ gx) → Hid (P2 33 v gy (.bool false) (.slice none 0 0)) → Hid (x3.heap.size ≤ gy) → Hid (gx ≠ gy) → F 2 (Array.setIfInBounds (Array.setIfInBounds (Array.setIfInBounds (Array.setIfInBounds L0 2 true) 5 true) 6 true) 7 true) (Act.put (Act.put (Act.put (Act.put a0 (some 30) (.agg #[.bool s4a, .slice A4a n4a c4a])) (some 33) (.agg #[.bool s4b, .slice A4b n4b c4b])) (some 9) (.pointer (some ⟨gx, 0, none⟩))) (some 10) (.pointer (some ⟨gy, 0, none⟩))) v := by
    intro s4a A4a n4a c4a s4b A4b n4b c4b gx gy v HX_j q_j s_j g_j N0_j N1_j HP_x_j HG_x_j HP_y_j HG_y_j HN_x_y_j
    subst hF ha0 hL0
    simp only [PT] at  ⊢
    have hHeld := HS4.out _ HX_j.out
    refine wpAnyH_ready (rs := [8]) (by kernel_rfl) (by simp) ?_
    refine .cons rfl (fun K hK => ?_) .nil
    obtain ⟨z0, z1⟩ := HP_x_j.out.cells
    have y0 := HP_x_j.out.frozen 0
    have y1 := HP_x_j.out.frozen 1
    have z9 := HP_x_j.out.lt
    go_simp
    obtain ⟨v1, hV⟩ := nmz (World.setCell (World.setCell v ⟨gx, 0, none⟩ (.bool s4a)) ⟨gx, 1, none⟩ (.slice A4a n4a c4a))
    rw [hV]
    have HX_1 := hJ (show Below x3.heap.size x3 v1 by rw [← hV]; exact below_box HX_j.out (HG_x_j.out) _ _)
    have q_1 := hJ (show PI v1 s2a A2a n2a c2a (q) by rw [← hV]; exact PIo.box (q_j.out) (HP_x_j.out) rfl rfl (.bool s4a) (.slice A4a n4a c4a))
    have s_1 := hJ (show PI v1 s2b A2b n2b c2b (s) by rw [← hV]; exact PIo.box (s_j.out) (HP_x_j.out) rfl rfl (.bool s4a) (.slice A4a n4a c4a))
    have g_1 := hJ (show PI v1 s3 A3 n3 c3 (g) by rw [← hV]; exact PIo.box (g_j.out) (HP_x_j.out) rfl rfl (.bool s4a) (.slice A4a n4a c4a))
    have N0_1 := hJ (show PI v1 s4a A4a n4a c4a (q / g) by rw [← hV]; exact PIo.box (N0_j.out) (HP_x_j.out) rfl rfl (.bool s4a) (.slice A4a n4a c4a))
    have N1_1 := hJ (show PI v1 s4b A4b n4b c4b (s / g) by rw [← hV]; exact PIo.box (N1_j.out) (HP_x_j.out) rfl rfl (.bool s4a) (.slice A4a n4a c4a))
    have HP_y_1 := hJ (show P2 33 v1 gy (.bool false) (.slice none 0 0) by rw [← hV]; exact HP_y_j.out.far2 (show gy ≠ gx from HN_x_y_j.out.symm) (.bool s4a) (.slice A4a n4a c4a))
    have HP_x_1 := hJ (show P2 33 v1 gx (.bool s4a) (.slice A4a n4a c4a) by rw [← hV]; exact HP_x_j.out.all (.bool s4a) (.slice A4a n4a c4a))
    clear hHeld
    refine hK.out _ _ (HS4.out _ HX_1.out) (fun hHeld => ?_)
    clear hK K hV z9 z0 z1 y0 y1 HX_j q_j s_j g_j N0_j N1_j HP_y_j HP_x_j
    try simp only [PT]
    refine wpAnyH_ready (rs := [9]) (by kernel_rfl) (by simp) ?_
    refine .cons rfl (fun K hK => ?_) .nil
    obtain ⟨z0, z1⟩ := HP_y_1.out.cells
    have y0 := HP_y_1.out.frozen 0
    have y1 := HP_y_1.out.frozen 1
    have z9 := HP_y_1.out.lt
    go_simp
    obtain ⟨v2, hV⟩ := nmz (World.setCell (World.setCell v1 ⟨gy, 0, none⟩ (.bool s4b)) ⟨gy, 1, none⟩ (.slice A4b n4b c4b))
    rw [hV]
    have HX_2 := hJ (show Below x3.heap.size x3 v2 by rw [← hV]; exact below_box HX_1.out (HG_y_j.out) _ _)
    have q_2 := hJ (show PI v2 s2a A2a n2a c2a (q) by rw [← hV]; exact PIo.box (q_1.out) (HP_y_1.out) rfl rfl (.bool s4b) (.slice A4b n4b c4b))
    have s_2 := hJ (show PI v2 s2b A2b n2b c2b (s) by rw [← hV]; exact PIo.box (s_1.out) (HP_y_1.out) rfl rfl (.bool s4b) (.slice A4b n4b c4b))
    have g_2 := hJ (show PI v2 s3 A3 n3 c3 (g) by rw [← hV]; exact PIo.box (g_1.out) (HP_y_1.out) rfl rfl (.bool s4b) (.slice A4b n4b c4b))
    have N0_2 := hJ (show PI v2 s4a A4a n4a c4a (q / g) by rw [← hV]; exact PIo.box (N0_1.out) (HP_y_1.out) rfl rfl (.bool s4b) (.slice A4b n4b c4b))
    have N1_2 := hJ (show PI v2 s4b A4b n4b c4b (s / g) by rw [← hV]; exact PIo.box (N1_1.out) (HP_y_1.out) rfl rfl (.bool s4b) (.slice A4b n4b c4b))
    have HP_x_2 := hJ (show P2 33 v2 gx (.bool s4a) (.slice A4a n4a c4a) by rw [← hV]; exact HP_x_1.out.far2 (show gx ≠ gy from HN_x_y_j.out) (.bool s4b) (.slice A4b n4b c4b))
    have HP_y_2 := hJ (show P2 33 v2 gy (.bool s4b) (.slice A4b n4b c4b) by rw [← hV]; exact HP_y_1.out.all (.bool s4b) (.slice A4b n4b c4b))
    clear hHeld
    refine hK.out _ _ (HS4.out _ HX_2.out) (fun hHeld => ?_)
    clear hK K hV z9 z0 z1 y0 y1 HX_1 q_1 s_1 g_1 N0_1 N1_1 HP_x_1 HP_y_1
    try simp only [PT]
    refine wpAnyH_done (by kernel_rfl) ?_ _
    clear hHeld
    go_wp2_with fail
    go_meet
    exact ⟨gx, gy, s4a, A4a, n4a, c4a, s4b, A4b, n4b, c4b, rfl, rfl, HP_x_2.out, HP_y_2.out, N0_2.out, N1_2.out, HX_2.out⟩
   have J2_5_6 : ∀ (s4a : Bool) (A4a : Option Addr) (n4a : Nat) (c4a : Nat) (s4b : Bool) (A4b : Option Addr) (n4b : Nat) (c4b : Nat) (gx : Nat) (v : World), Hid (Below x3.heap.size x3 v) → Hid (PI v s2a A2a n2a c2a (q)) → Hid (PI v s2b A2b n2b c2b (s)) → Hid (PI v s3 A3 n3 c3 (g)) → Hid (PI v s4a A4a n4a c4a (q / g)) → Hid (PI v s4b A4b n4b c4b (s / g)) → Hid (P2 33 v gx (.bool false) (.slice none 0 0)) → Hid (x3.heap.size ≤ gx) → F 3 (Array.setIfInBounds (Array.setIfInBounds (Array.setIfInBounds L0 2 true) 5 true) 6 true) (Act.put (Act.put (Act.put a0 (some 30) (.agg #[.bool s4a, .slice A4a n4a c4a])) (some 33) (.agg #[.bool s4b, .slice A4b n4b c4b])) (some 9) (.pointer (some ⟨gx, 0, none⟩))) v := by
    intro s4a A4a n4a c4a s4b A4b n4b c4b gx v HX_j q_j s_j g_j N0_j N1_j HP_x_j HG_x_j
    subst hF ha0 hL0
    simp only [PT] at J2_5_6_7 ⊢
    have hHeld := HS4.out _ HX_j.out
    refine wpAnyH_ready (rs := [7]) (by kernel_rfl) (by simp) ?_
    refine .cons rfl (fun K hK => ?_) .nil
    go_simp
    have HB_3 := hJ ((Below.refl v.heap.size v).alloc (Nat.le_refl _) (.cells #[.bool false, .slice none 0 0] 33))
    have HP_y_3 := hJ (P2.lit v 33 (.bool false) (.slice none 0 0))
    obtain ⟨v3, hV⟩ := nmz (World.alloc v (.cells #[.bool false, .slice none 0 0] 33))
    obtain ⟨gy, hg⟩ := nmz (v.heap.size)
    rw [hV] at HB_3 HP_y_3  ⊢
    rw [hg] at HP_y_3  ⊢
    have HG_y := hJ (show x3.heap.size ≤ gy by rw [← hg]; exact HX_j.out.size)
    have HN_x_y := hJ (show gx ≠ gy by have := HP_x_j.out.lt; rw [hg] at this; omega)
    have HX_3 := hJ (bt HX_j.out HB_3.out)
    have q_3 := hJ (PIo.new q_j.out HB_3.out)
    have s_3 := hJ (PIo.new s_j.out HB_3.out)
    have g_3 := hJ (PIo.new g_j.out HB_3.out)
    have N0_3 := hJ (PIo.new N0_j.out HB_3.out)
    have N1_3 := hJ (PIo.new N1_j.out HB_3.out)
    have HP_x_3 := hJ (HP_x_j.out.new HB_3.out)
    clear hHeld
    refine hK.out _ _ (HS4.out _ HX_3.out) (fun hHeld => ?_)
    clear hK K hV hg HB_3 HX_j q_j s_j g_j N0_j N1_j HP_x_j
    try simp only [PT]
    exact wpAnyH_cast (by kernel_rfl) (J2_5_6_7 s4a A4a n4a c4a s4b A4b n4b c4b gx gy v3 HX_3 q_3 s_3 g_3 N0_3 N1_3 HP_x_3 (hJ (HG_x_j.out)) HP_y_3 (hJ (HG_y.out)) (hJ (HN_x_y.out)))
   have J2_5_7 : ∀ (s4a : Bool) (A4a : Option Addr) (n4a : Nat) (c4a : Nat) (s4b : Bool) (A4b : Option Addr) (n4b : Nat) (c4b : Nat) (gy : Nat) (v : World), Hid (Below x3.heap.size x3 v) → Hid (PI v s2a A2a n2a c2a (q)) → Hid (PI v s2b A2b n2b c2b (s)) → Hid (PI v s3 A3 n3 c3 (g)) → Hid (PI v s4a A4a n4a c4a (q / g)) → Hid (PI v s4b A4b n4b c4b (s / g)) → Hid (P2 33 v gy (.bool false) (.slice none 0 0)) → Hid (x3.heap.size ≤ gy) → F 3 (Array.setIfInBounds (Array.setIfInBounds (Array.setIfInBounds L0 2 true) 5 true) 7 true) (Act.put (Act.put (Act.put a0 (some 30) (.agg #[.bool s4a, .slice A4a n4a c4a])) (some 33) (.agg #[.bool s4b, .slice A4b n4b c4b])) (some 10) (.pointer (some ⟨gy, 0, none⟩))) v := by
    intro s4a A4a n4a c4a s4b A4b n4b c4b gy v HX_j q_j s_j g_j N0_j N1_j HP_y_j HG_y_j
    subst hF ha0 hL0
    simp only [PT] at J2_5_6_7 ⊢
    have hHeld := HS4.out _ HX_j.out
    refine wpAnyH_ready (rs := [6]) (by kernel_rfl) (by simp) ?_
    refine .cons rfl (fun K hK => ?_) .nil
    go_simp
    have HB_4 := hJ ((Below.refl v.heap.size v).alloc (Nat.le_refl _) (.cells #[.bool false, .slice none 0 0] 33))
    have HP_x_4 := hJ (P2.lit v 33 (.bool false) (.slice none 0 0))
    obtain ⟨v4, hV⟩ := nmz (World.alloc v (.cells #[.bool false, .slice none 0 0] 33))
    obtain ⟨gx, hg⟩ := nmz (v.heap.size)
    rw [hV] at HB_4 HP_x_4  ⊢
    rw [hg] at HP_x_4  ⊢
    have HG_x := hJ (show x3.heap.size ≤ gx by rw [← hg]; exact HX_j.out.size)
    have HN_y_x := hJ (show gy ≠ gx by have := HP_y_j.out.lt; rw [hg] at this; omega)
    have HX_4 := hJ (bt HX_j.out HB_4.out)
    have q_4 := hJ (PIo.new q_j.out HB_4.out)
    have s_4 := hJ (PIo.new s_j.out HB_4.out)
    have g_4 := hJ (PIo.new g_j.out HB_4.out)
    have N0_4 := hJ (PIo.new N0_j.out HB_4.out)
    have N1_4 := hJ (PIo.new N1_j.out HB_4.out)
    have HP_y_4 := hJ (HP_y_j.out.new HB_4.out)
    clear hHeld
    refine hK.out _ _ (HS4.out _ HX_4.out) (fun hHeld => ?_)
    clear hK K hV hg HB_4 HX_j q_j s_j g_j N0_j N1_j HP_y_j
    try simp only [PT]
    exact wpAnyH_cast (by kernel_rfl) (J2_5_6_7 s4a A4a n4a c4a s4b A4b n4b c4b gx gy v4 HX_4 q_4 s_4 g_4 N0_4 N1_4 HP_x_4 (hJ (HG_x.out)) HP_y_4 (hJ (HG_y_j.out)) (hJ (HN_y_x.out.symm)))
   have J2_6_7 : ∀ (s4a : Bool) (A4a : Option Addr) (n4a : Nat) (c4a : Nat) (gx : Nat) (gy : Nat) (v : World), Hid (Below x3.heap.size x3 v) → Hid (PI v s2a A2a n2a c2a (q)) → Hid (PI v s2b A2b n2b c2b (s)) → Hid (PI v s3 A3 n3 c3 (g)) → Hid (PI v s4a A4a n4a c4a (q / g)) → Hid (P2 33 v gx (.bool false) (.slice none 0 0)) → Hid (x3.heap.size ≤ gx) → Hid (P2 33 v gy (.bool false) (.slice none 0 0)) → Hid (x3.heap.size ≤ gy) → Hid (gx ≠ gy) → F 3 (Array.setIfInBounds (Array.setIfInBounds (Array.setIfInBounds L0 2 true) 6 true) 7 true) (Act.put (Act.put (Act.put a0 (some 30) (.agg #[.bool s4a, .slice A4a n4a c4a])) (some 9) (.pointer (some ⟨gx, 0, none⟩))) (some 10) (.pointer (some ⟨gy, 0, none⟩))) v := by
    intro s4a A4a n4a c4a gx gy v HX_j q_j s_j g_j N0_j HP_x_j HG_x_j HP_y_j HG_y_j HN_x_y_j
    subst hF ha0 hL0
    simp only [PT] at J2_5_6_7 ⊢
    have hHeld := HS4.out _ HX_j.out
    refine wpAnyH_ready (rs := [5]) (by kernel_rfl) (by simp) ?_
    refine .cons rfl (fun K hK => ?_) .nil
    go_simp
    go_at_call_of 102 (#[Value.agg #[.bool s2b, .slice A2b n2b c2b], Value.agg #[.bool s3, .slice A3 n3 c3]])
    refine (fdivided_any s g s2b s3 A2b A3 n2b c2b n3 c3 v (s_j.out) (g_j.out) (by omega) (by omega) HGF.out.1).mono ?_
    rintro e v5 ⟨s4b, A4b, n4b, c4b, rfl, hr, hk⟩
    have N1_5 := hJ (hr)
    have HB_5 := hJ hk
    go_wp2_with fail
    have HX_5 := hJ (bt HX_j.out HB_5.out)
    have q_5 := hJ (PIo.new q_j.out HB_5.out)
    have s_5 := hJ (PIo.new s_j.out HB_5.out)
    have g_5 := hJ (PIo.new g_j.out HB_5.out)
    have N0_5 := hJ (PIo.new N0_j.out HB_5.out)
    have HP_x_5 := hJ (HP_x_j.out.new HB_5.out)
    have HP_y_5 := hJ (HP_y_j.out.new HB_5.out)
    clear hHeld
    refine hK.out _ _ (HS4.out _ HX_5.out) (fun hHeld => ?_)
    clear hK K hk HB_5 hr HX_j q_j s_j g_j N0_j HP_x_j HP_y_j
    try simp only [PT]
    exact wpAnyH_cast (by kernel_rfl) (J2_5_6_7 s4a A4a n4a c4a s4b A4b n4b c4b gx gy v5 HX_5 q_5 s_5 g_5 N0_5 N1_5 HP_x_5 (hJ (HG_x_j.out)) HP_y_5 (hJ (HG_y_j.out)) (hJ (HN_x_y_j.out)))
   have J2_5 : ∀ (s4a : Bool) (A4a : Option Addr) (n4a : Nat) (c4a : Nat) (s4b : Bool) (A4b : Option Addr) (n4b : Nat) (c4b : Nat) (v : World), Hid (Below x3.heap.size x3 v) → Hid (PI v s2a A2a n2a c2a (q)) → Hid (PI v s2b A2b n2b c2b (s)) → Hid (PI v s3 A3 n3 c3 (g)) → Hid (PI v s4a A4a n4a c4a (q / g)) → Hid (PI v s4b A4b n4b c4b (s / g)) → F 4 (Array.setIfInBounds (Array.setIfInBounds L0 2 true) 5 true) (Act.put (Act.put a0 (some 30) (.agg #[.bool s4a, .slice A4a n4a c4a])) (some 33) (.agg #[.bool s4b, .slice A4b n4b c4b])) v := by
    intro s4a A4a n4a c4a s4b A4b n4b c4b v HX_j q_j s_j g_j N0_j N1_j
    subst hF ha0 hL0
    simp only [PT] at J2_5_6 J2_5_7 ⊢
    have hHeld := HS4.out _ HX_j.out
    refine wpAnyH_ready (rs := [6, 7]) (by kernel_rfl) (by simp) ?_
    refine .cons rfl (fun K hK => ?_) ?_
    go_simp
    have HB_6 := hJ ((Below.refl v.heap.size v).alloc (Nat.le_refl _) (.cells #[.bool false, .slice none 0 0] 33))
    have HP_x_6 := hJ (P2.lit v 33 (.bool false) (.slice none 0 0))
    obtain ⟨v6, hV⟩ := nmz (World.alloc v (.cells #[.bool false, .slice none 0 0] 33))
    obtain ⟨gx, hg⟩ := nmz (v.heap.size)
    rw [hV] at HB_6 HP_x_6  ⊢
    rw [hg] at HP_x_6  ⊢
    have HG_x := hJ (show x3.heap.size ≤ gx by rw [← hg]; exact HX_j.out.size)
    have HX_6 := hJ (bt HX_j.out HB_6.out)
    have q_6 := hJ (PIo.new q_j.out HB_6.out)
    have s_6 := hJ (PIo.new s_j.out HB_6.out)
    have g_6 := hJ (PIo.new g_j.out HB_6.out)
    have N0_6 := hJ (PIo.new N0_j.out HB_6.out)
    have N1_6 := hJ (PIo.new N1_j.out HB_6.out)
    clear hHeld
    refine hK.out _ _ (HS4.out _ HX_6.out) (fun hHeld => ?_)
    clear hK K hV hg HB_6 HX_j q_j s_j g_j N0_j N1_j
    try simp only [PT]
    exact wpAnyH_cast (by kernel_rfl) (J2_5_6 s4a A4a n4a c4a s4b A4b n4b c4b gx v6 HX_6 q_6 s_6 g_6 N0_6 N1_6 HP_x_6 (hJ (HG_x.out)))
    refine .cons rfl (fun K hK => ?_) .nil
    go_simp
    have HB_7 := hJ ((Below.refl v.heap.size v).alloc (Nat.le_refl _) (.cells #[.bool false, .slice none 0 0] 33))
    have HP_y_7 := hJ (P2.lit v 33 (.bool false) (.slice none 0 0))
    obtain ⟨v7, hV⟩ := nmz (World.alloc v (.cells #[.bool false, .slice none 0 0] 33))
    obtain ⟨gy, hg⟩ := nmz (v.heap.size)
    rw [hV] at HB_7 HP_y_7  ⊢
    rw [hg] at HP_y_7  ⊢
    have HG_y := hJ (show x3.heap.size ≤ gy by rw [← hg]; exact HX_j.out.size)
    have HX_7 := hJ (bt HX_j.out HB_7.out)
    have q_7 := hJ (PIo.new q_j.out HB_7.out)
    have s_7 := hJ (PIo.new s_j.out HB_7.out)
    have g_7 := hJ (PIo.new g_j.out HB_7.out)
    have N0_7 := hJ (PIo.new N0_j.out HB_7.out)
    have N1_7 := hJ (PIo.new N1_j.out HB_7.out)
    clear hHeld
    refine hK.out _ _ (HS4.out _ HX_7.out) (fun hHeld => ?_)
    clear hK K hV hg HB_7 HX_j q_j s_j g_j N0_j N1_j
    try simp only [PT]
    exact wpAnyH_cast (by kernel_rfl) (J2_5_7 s4a A4a n4a c4a s4b A4b n4b c4b gy v7 HX_7 q_7 s_7 g_7 N0_7 N1_7 HP_y_7 (hJ (HG_y.out)))
   have J2_6 : ∀ (s4a : Bool) (A4a : Option Addr) (n4a : Nat) (c4a : Nat) (gx : Nat) (v : World), Hid (Below x3.heap.size x3 v) → Hid (PI v s2a A2a n2a c2a (q)) → Hid (PI v s2b A2b n2b c2b (s)) → Hid (PI v s3 A3 n3 c3 (g)) → Hid (PI v s4a A4a n4a c4a (q / g)) → Hid (P2 33 v gx (.bool false) (.slice none 0 0)) → Hid (x3.heap.size ≤ gx) → F 4 (Array.setIfInBounds (Array.setIfInBounds L0 2 true) 6 true) (Act.put (Act.put a0 (some 30) (.agg #[.bool s4a, .slice A4a n4a c4a])) (some 9) (.pointer (some ⟨gx, 0, none⟩))) v := by
    intro s4a A4a n4a c4a gx v HX_j q_j s_j g_j N0_j HP_x_j HG_x_j
    subst hF ha0 hL0
    simp only [PT] at J2_5_6 J2_6_7 ⊢
    have hHeld := HS4.out _ HX_j.out
    refine wpAnyH_ready (rs := [5, 7]) (by kernel_rfl) (by simp) ?_
    refine .cons rfl (fun K hK => ?_) ?_
    go_simp
    go_at_call_of 102 (#[Value.agg #[.bool s2b, .slice A2b n2b c2b], Value.agg #[.bool s3, .slice A3 n3 c3]])
    refine (fdivided_any s g s2b s3 A2b A3 n2b c2b n3 c3 v (s_j.out) (g_j.out) (by omega) (by omega) HGF.out.1).mono ?_
    rintro e v8 ⟨s4b, A4b, n4b, c4b, rfl, hr, hk⟩
    have N1_8 := hJ (hr)
    have HB_8 := hJ hk
    go_wp2_with fail
    have HX_8 := hJ (bt HX_j.out HB_8.out)
    have q_8 := hJ (PIo.new q_j.out HB_8.out)
    have s_8 := hJ (PIo.new s_j.out HB_8.out)
    have g_8 := hJ (PIo.new g_j.out HB_8.out)
    have N0_8 := hJ (PIo.new N0_j.out HB_8.out)
    have HP_x_8 := hJ (HP_x_j.out.new HB_8.out)
    clear hHeld
    refine hK.out _ _ (HS4.out _ HX_8.out) (fun hHeld => ?_)
    clear hK K hk HB_8 hr HX_j q_j s_j g_j N0_j HP_x_j
    try simp only [PT]
    exact wpAnyH_cast (by kernel_rfl) (J2_5_6 s4a A4a n4a c4a s4b A4b n4b c4b gx v8 HX_8 q_8 s_8 g_8 N0_8 N1_8 HP_x_8 (hJ (HG_x_j.out)))
    refine .cons rfl (fun K hK => ?_) .nil
    go_simp
    have HB_9 := hJ ((Below.refl v.heap.size v).alloc (Nat.le_refl _) (.cells #[.bool false, .slice none 0 0] 33))
    have HP_y_9 := hJ (P2.lit v 33 (.bool false) (.slice none 0 0))
    obtain ⟨v9, hV⟩ := nmz (World.alloc v (.cells #[.bool false, .slice none 0 0] 33))
    obtain ⟨gy, hg⟩ := nmz (v.heap.size)
    rw [hV] at HB_9 HP_y_9  ⊢
    rw [hg] at HP_y_9  ⊢
    have HG_y := hJ (show x3.heap.size ≤ gy by rw [← hg]; exact HX_j.out.size)
    have HN_x_y := hJ (show gx ≠ gy by have := HP_x_j.out.lt; rw [hg] at this; omega)
    have HX_9 := hJ (bt HX_j.out HB_9.out)
    have q_9 := hJ (PIo.new q_j.out HB_9.out)
    have s_9 := hJ (PIo.new s_j.out HB_9.out)
    have g_9 := hJ (PIo.new g_j.out HB_9.out)
    have N0_9 := hJ (PIo.new N0_j.out HB_9.out)
    have HP_x_9 := hJ (HP_x_j.out.new HB_9.out)
    clear hHeld
    refine hK.out _ _ (HS4.out _ HX_9.out) (fun hHeld => ?_)
    clear hK K hV hg HB_9 HX_j q_j s_j g_j N0_j HP_x_j
    try simp only [PT]
    exact wpAnyH_cast (by kernel_rfl) (J2_6_7 s4a A4a n4a c4a gx gy v9 HX_9 q_9 s_9 g_9 N0_9 HP_x_9 (hJ (HG_x_j.out)) HP_y_9 (hJ (HG_y.out)) (hJ (HN_x_y.out)))
   have J2_7 : ∀ (s4a : Bool) (A4a : Option Addr) (n4a : Nat) (c4a : Nat) (gy : Nat) (v : World), Hid (Below x3.heap.size x3 v) → Hid (PI v s2a A2a n2a c2a (q)) → Hid (PI v s2b A2b n2b c2b (s)) → Hid (PI v s3 A3 n3 c3 (g)) → Hid (PI v s4a A4a n4a c4a (q / g)) → Hid (P2 33 v gy (.bool false) (.slice none 0 0)) → Hid (x3.heap.size ≤ gy) → F 4 (Array.setIfInBounds (Array.setIfInBounds L0 2 true) 7 true) (Act.put (Act.put a0 (some 30) (.agg #[.bool s4a, .slice A4a n4a c4a])) (some 10) (.pointer (some ⟨gy, 0, none⟩))) v := by
    intro s4a A4a n4a c4a gy v HX_j q_j s_j g_j N0_j HP_y_j HG_y_j
    subst hF ha0 hL0
    simp only [PT] at J2_5_7 J2_6_7 ⊢
    have hHeld := HS4.out _ HX_j.out
    refine wpAnyH_ready (rs := [5, 6]) (by kernel_rfl) (by simp) ?_
    refine .cons rfl (fun K hK => ?_) ?_
    go_simp
    go_at_call_of 102 (#[Value.agg #[.bool s2b, .slice A2b n2b c2b], Value.agg #[.bool s3, .slice A3 n3 c3]])
    refine (fdivided_any s g s2b s3 A2b A3 n2b c2b n3 c3 v (s_j.out) (g_j.out) (by omega) (by omega) HGF.out.1).mono ?_
    rintro e v10 ⟨s4b, A4b, n4b, c4b, rfl, hr, hk⟩
    have N1_10 := hJ (hr)
    have HB_10 := hJ hk
    go_wp2_with fail
    have HX_10 := hJ (bt HX_j.out HB_10.out)
    have q_10 := hJ (PIo.new q_j.out HB_10.out)
    have s_10 := hJ (PIo.new s_j.out HB_10.out)
    have g_10 := hJ (PIo.new g_j.out HB_10.out)
    have N0_10 := hJ (PIo.new N0_j.out HB_10.out)
    have HP_y_10 := hJ (HP_y_j.out.new HB_10.out)
    clear hHeld
    refine hK.out _ _ (HS4.out _ HX_10.out) (fun hHeld => ?_)
    clear hK K hk HB_10 hr HX_j q_j s_j g_j N0_j HP_y_j
    try simp only [PT]
    exact wpAnyH_cast (by kernel_rfl) (J2_5_7 s4a A4a n4a c4a s4b A4b n4b c4b gy v10 HX_10 q_10 s_10 g_10 N0_10 N1_10 HP_y_10 (hJ (HG_y_j.out)))
    refine .cons rfl (fun K hK => ?_) .nil
    go_simp
    have HB_11 := hJ ((Below.refl v.heap.size v).alloc (Nat.le_refl _) (.cells #[.bool false, .slice none 0 0] 33))
    have HP_x_11 := hJ (P2.lit v 33 (.bool false) (.slice none 0 0))
    obtain ⟨v11, hV⟩ := nmz (World.alloc v (.cells #[.bool false, .slice none 0 0] 33))
    obtain ⟨gx, hg⟩ := nmz (v.heap.size)
    rw [hV] at HB_11 HP_x_11  ⊢
    rw [hg] at HP_x_11  ⊢
    have HG_x := hJ (show x3.heap.size ≤ gx by rw [← hg]; exact HX_j.out.size)
    have HN_y_x := hJ (show gy ≠ gx by have := HP_y_j.out.lt; rw [hg] at this; omega)
    have HX_11 := hJ (bt HX_j.out HB_11.out)
    have q_11 := hJ (PIo.new q_j.out HB_11.out)
    have s_11 := hJ (PIo.new s_j.out HB_11.out)
    have g_11 := hJ (PIo.new g_j.out HB_11.out)
    have N0_11 := hJ (PIo.new N0_j.out HB_11.out)
    have HP_y_11 := hJ (HP_y_j.out.new HB_11.out)
    clear hHeld
    refine hK.out _ _ (HS4.out _ HX_11.out) (fun hHeld => ?_)
    clear hK K hV hg HB_11 HX_j q_j s_j g_j N0_j HP_y_j
    try simp only [PT]
    exact wpAnyH_cast (by kernel_rfl) (J2_6_7 s4a A4a n4a c4a gx gy v11 HX_11 q_11 s_11 g_11 N0_11 HP_x_11 (hJ (HG_x.out)) HP_y_11 (hJ (HG_y_j.out)) (hJ (HN_y_x.out.symm)))
   have J6_7 : ∀ (gx : Nat) (gy : Nat) (v : World), Hid (Below x3.heap.size x3 v) → Hid (PI v s2a A2a n2a c2a (q)) → Hid (PI v s2b A2b n2b c2b (s)) → Hid (PI v s3 A3 n3 c3 (g)) → Hid (P2 33 v gx (.bool false) (.slice none 0 0)) → Hid (x3.heap.size ≤ gx) → Hid (P2 33 v gy (.bool false) (.slice none 0 0)) → Hid (x3.heap.size ≤ gy) → Hid (gx ≠ gy) → F 4 (Array.setIfInBounds (Array.setIfInBounds L0 6 true) 7 true) (Act.put (Act.put a0 (some 9) (.pointer (some ⟨gx, 0, none⟩))) (some 10) (.pointer (some ⟨gy, 0, none⟩))) v := by
    intro gx gy v HX_j q_j s_j g_j HP_x_j HG_x_j HP_y_j HG_y_j HN_x_y_j
    subst hF ha0 hL0
    simp only [PT] at J2_6_7 ⊢
    have hHeld := HS4.out _ HX_j.out
    refine wpAnyH_ready (rs := [2]) (by kernel_rfl) (by simp) ?_
    refine .cons rfl (fun K hK => ?_) .nil
    go_simp
    go_at_call_of 102 (#[Value.agg #[.bool s2a, .slice A2a n2a c2a], Value.agg #[.bool s3, .slice A3 n3 c3]])
    refine (fdivided_any q g s2a s3 A2a A3 n2a c2a n3 c3 v (q_j.out) (g_j.out) (by omega) (by omega) HGF.out.1).mono ?_
    rintro e v12 ⟨s4a, A4a, n4a, c4a, rfl, hr, hk⟩
    have N0_12 := hJ (hr)
    have HB_12 := hJ hk
    go_wp2_with fail
    have HX_12 := hJ (bt HX_j.out HB_12.out)
    have q_12 := hJ (PIo.new q_j.out HB_12.out)
    have s_12 := hJ (PIo.new s_j.out HB_12.out)
    have g_12 := hJ (PIo.new g_j.out HB_12.out)
    have HP_x_12 := hJ (HP_x_j.out.new HB_12.out)
    have HP_y_12 := hJ (HP_y_j.out.new HB_12.out)
    clear hHeld
    refine hK.out _ _ (HS4.out _ HX_12.out) (fun hHeld => ?_)
    clear hK K hk HB_12 hr HX_j q_j s_j g_j HP_x_j HP_y_j
    try simp only [PT]
    exact wpAnyH_cast (by kernel_rfl) (J2_6_7 s4a A4a n4a c4a gx gy v12 HX_12 q_12 s_12 g_12 N0_12 HP_x_12 (hJ (HG_x_j.out)) HP_y_12 (hJ (HG_y_j.out)) (hJ (HN_x_y_j.out)))
   have J2 : ∀ (s4a : Bool) (A4a : Option Addr) (n4a : Nat) (c4a : Nat) (v : World), Hid (Below x3.heap.size x3 v) → Hid (PI v s2a A2a n2a c2a (q)) → Hid (PI v s2b A2b n2b c2b (s)) → Hid (PI v s3 A3 n3 c3 (g)) → Hid (PI v s4a A4a n4a c4a (q / g)) → F 5 (Array.setIfInBounds L0 2 true) (Act.put a0 (some 30) (.agg #[.bool s4a, .slice A4a n4a c4a])) v := by
    intro s4a A4a n4a c4a v HX_j q_j s_j g_j N0_j
    subst hF ha0 hL0
    simp only [PT] at J2_5 J2_6 J2_7 ⊢
    have hHeld := HS4.out _ HX_j.out
    refine wpAnyH_ready (rs := [5, 6, 7]) (by kernel_rfl) (by simp) ?_
    refine .cons rfl (fun K hK => ?_) ?_
    go_simp
    go_at_call_of 102 (#[Value.agg #[.bool s2b, .slice A2b n2b c2b], Value.agg #[.bool s3, .slice A3 n3 c3]])
    refine (fdivided_any s g s2b s3 A2b A3 n2b c2b n3 c3 v (s_j.out) (g_j.out) (by omega) (by omega) HGF.out.1).mono ?_
    rintro e v13 ⟨s4b, A4b, n4b, c4b, rfl, hr, hk⟩
    have N1_13 := hJ (hr)
    have HB_13 := hJ hk
    go_wp2_with fail
    have HX_13 := hJ (bt HX_j.out HB_13.out)
    have q_13 := hJ (PIo.new q_j.out HB_13.out)
    have s_13 := hJ (PIo.new s_j.out HB_13.out)
    have g_13 := hJ (PIo.new g_j.out HB_13.out)
    have N0_13 := hJ (PIo.new N0_j.out HB_13.out)
    clear hHeld
    refine hK.out _ _ (HS4.out _ HX_13.out) (fun hHeld => ?_)
    clear hK K hk HB_13 hr HX_j q_j s_j g_j N0_j
    try simp only [PT]
    exact wpAnyH_cast (by kernel_rfl) (J2_5 s4a A4a n4a c4a s4b A4b n4b c4b v13 HX_13 q_13 s_13 g_13 N0_13 N1_13)
    refine .cons rfl (fun K hK => ?_) ?_
    go_simp
    have HB_14 := hJ ((Below.refl v.heap.size v).alloc (Nat.le_refl _) (.cells #[.bool false, .slice none 0 0] 33))
    have HP_x_14 := hJ (P2.lit v 33 (.bool false) (.slice none 0 0))
    obtain ⟨v14, hV⟩ := nmz (World.alloc v (.cells #[.bool false, .slice none 0 0] 33))
    obtain ⟨gx, hg⟩ := nmz (v.heap.size)
    rw [hV] at HB_14 HP_x_14  ⊢
    rw [hg] at HP_x_14  ⊢
    have HG_x := hJ (show x3.heap.size ≤ gx by rw [← hg]; exact HX_j.out.size)
    have HX_14 := hJ (bt HX_j.out HB_14.out)
    have q_14 := hJ (PIo.new q_j.out HB_14.out)
    have s_14 := hJ (PIo.new s_j.out HB_14.out)
    have g_14 := hJ (PIo.new g_j.out HB_14.out)
    have N0_14 := hJ (PIo.new N0_j.out HB_14.out)
    clear hHeld
    refine hK.out _ _ (HS4.out _ HX_14.out) (fun hHeld => ?_)
    clear hK K hV hg HB_14 HX_j q_j s_j g_j N0_j
    try simp only [PT]
    exact wpAnyH_cast (by kernel_rfl) (J2_6 s4a A4a n4a c4a gx v14 HX_14 q_14 s_14 g_14 N0_14 HP_x_14 (hJ (HG_x.out)))
    refine .cons rfl (fun K hK => ?_) .nil
    go_simp
    have HB_15 := hJ ((Below.refl v.heap.size v).alloc (Nat.le_refl _) (.cells #[.bool false, .slice none 0 0] 33))
    have HP_y_15 := hJ (P2.lit v 33 (.bool false) (.slice none 0 0))
    obtain ⟨v15, hV⟩ := nmz (World.alloc v (.cells #[.bool false, .slice none 0 0] 33))
    obtain ⟨gy, hg⟩ := nmz (v.heap.size)
    rw [hV] at HB_15 HP_y_15  ⊢
    rw [hg] at HP_y_15  ⊢
    have HG_y := hJ (show x3.heap.size ≤ gy by rw [← hg]; exact HX_j.out.size)
    have HX_15 := hJ (bt HX_j.out HB_15.out)
    have q_15 := hJ (PIo.new q_j.out HB_15.out)
    have s_15 := hJ (PIo.new s_j.out HB_15.out)
    have g_15 := hJ (PIo.new g_j.out HB_15.out)
    have N0_15 := hJ (PIo.new N0_j.out HB_15.out)
    clear hHeld
    refine hK.out _ _ (HS4.out _ HX_15.out) (fun hHeld => ?_)
    clear hK K hV hg HB_15 HX_j q_j s_j g_j N0_j
    try simp only [PT]
    exact wpAnyH_cast (by kernel_rfl) (J2_7 s4a A4a n4a c4a gy v15 HX_15 q_15 s_15 g_15 N0_15 HP_y_15 (hJ (HG_y.out)))
   have J6 : ∀ (gx : Nat) (v : World), Hid (Below x3.heap.size x3 v) → Hid (PI v s2a A2a n2a c2a (q)) → Hid (PI v s2b A2b n2b c2b (s)) → Hid (PI v s3 A3 n3 c3 (g)) → Hid (P2 33 v gx (.bool false) (.slice none 0 0)) → Hid (x3.heap.size ≤ gx) → F 5 (Array.setIfInBounds L0 6 true) (Act.put a0 (some 9) (.pointer (some ⟨gx, 0, none⟩))) v := by
    intro gx v HX_j q_j s_j g_j HP_x_j HG_x_j
    subst hF ha0 hL0
    simp only [PT] at J2_6 J6_7 ⊢
    have hHeld := HS4.out _ HX_j.out
    refine wpAnyH_ready (rs := [2, 7]) (by kernel_rfl) (by simp) ?_
    refine .cons rfl (fun K hK => ?_) ?_
    go_simp
    go_at_call_of 102 (#[Value.agg #[.bool s2a, .slice A2a n2a c2a], Value.agg #[.bool s3, .slice A3 n3 c3]])
    refine (fdivided_any q g s2a s3 A2a A3 n2a c2a n3 c3 v (q_j.out) (g_j.out) (by omega) (by omega) HGF.out.1).mono ?_
    rintro e v16 ⟨s4a, A4a, n4a, c4a, rfl, hr, hk⟩
    have N0_16 := hJ (hr)
    have HB_16 := hJ hk
    go_wp2_with fail
    have HX_16 := hJ (bt HX_j.out HB_16.out)
    have q_16 := hJ (PIo.new q_j.out HB_16.out)
    have s_16 := hJ (PIo.new s_j.out HB_16.out)
    have g_16 := hJ (PIo.new g_j.out HB_16.out)
    have HP_x_16 := hJ (HP_x_j.out.new HB_16.out)
    clear hHeld
    refine hK.out _ _ (HS4.out _ HX_16.out) (fun hHeld => ?_)
    clear hK K hk HB_16 hr HX_j q_j s_j g_j HP_x_j
    try simp only [PT]
    exact wpAnyH_cast (by kernel_rfl) (J2_6 s4a A4a n4a c4a gx v16 HX_16 q_16 s_16 g_16 N0_16 HP_x_16 (hJ (HG_x_j.out)))
    refine .cons rfl (fun K hK => ?_) .nil
    go_simp
    have HB_17 := hJ ((Below.refl v.heap.size v).alloc (Nat.le_refl _) (.cells #[.bool false, .slice none 0 0] 33))
    have HP_y_17 := hJ (P2.lit v 33 (.bool false) (.slice none 0 0))
    obtain ⟨v17, hV⟩ := nmz (World.alloc v (.cells #[.bool false, .slice none 0 0] 33))
    obtain ⟨gy, hg⟩ := nmz (v.heap.size)
    rw [hV] at HB_17 HP_y_17  ⊢
    rw [hg] at HP_y_17  ⊢
    have HG_y := hJ (show x3.heap.size ≤ gy by rw [← hg]; exact HX_j.out.size)
    have HN_x_y := hJ (show gx ≠ gy by have := HP_x_j.out.lt; rw [hg] at this; omega)
    have HX_17 := hJ (bt HX_j.out HB_17.out)
    have q_17 := hJ (PIo.new q_j.out HB_17.out)
    have s_17 := hJ (PIo.new s_j.out HB_17.out)
    have g_17 := hJ (PIo.new g_j.out HB_17.out)
    have HP_x_17 := hJ (HP_x_j.out.new HB_17.out)
    clear hHeld
    refine hK.out _ _ (HS4.out _ HX_17.out) (fun hHeld => ?_)
    clear hK K hV hg HB_17 HX_j q_j s_j g_j HP_x_j
    try simp only [PT]
    exact wpAnyH_cast (by kernel_rfl) (J6_7 gx gy v17 HX_17 q_17 s_17 g_17 HP_x_17 (hJ (HG_x_j.out)) HP_y_17 (hJ (HG_y.out)) (hJ (HN_x_y.out)))
   have J7 : ∀ (gy : Nat) (v : World), Hid (Below x3.heap.size x3 v) → Hid (PI v s2a A2a n2a c2a (q)) → Hid (PI v s2b A2b n2b c2b (s)) → Hid (PI v s3 A3 n3 c3 (g)) → Hid (P2 33 v gy (.bool false) (.slice none 0 0)) → Hid (x3.heap.size ≤ gy) → F 5 (Array.setIfInBounds L0 7 true) (Act.put a0 (some 10) (.pointer (some ⟨gy, 0, none⟩))) v := by
    intro gy v HX_j q_j s_j g_j HP_y_j HG_y_j
    subst hF ha0 hL0
    simp only [PT] at J2_7 J6_7 ⊢
    have hHeld := HS4.out _ HX_j.out
    refine wpAnyH_ready (rs := [2, 6]) (by kernel_rfl) (by simp) ?_
    refine .cons rfl (fun K hK => ?_) ?_
    go_simp
    go_at_call_of 102 (#[Value.agg #[.bool s2a, .slice A2a n2a c2a], Value.agg #[.bool s3, .slice A3 n3 c3]])
    refine (fdivided_any q g s2a s3 A2a A3 n2a c2a n3 c3 v (q_j.out) (g_j.out) (by omega) (by omega) HGF.out.1).mono ?_
    rintro e v18 ⟨s4a, A4a, n4a, c4a, rfl, hr, hk⟩
    have N0_18 := hJ (hr)
    have HB_18 := hJ hk
    go_wp2_with fail
    have HX_18 := hJ (bt HX_j.out HB_18.out)
    have q_18 := hJ (PIo.new q_j.out HB_18.out)
    have s_18 := hJ (PIo.new s_j.out HB_18.out)
    have g_18 := hJ (PIo.new g_j.out HB_18.out)
    have HP_y_18 := hJ (HP_y_j.out.new HB_18.out)
    clear hHeld
    refine hK.out _ _ (HS4.out _ HX_18.out) (fun hHeld => ?_)
    clear hK K hk HB_18 hr HX_j q_j s_j g_j HP_y_j
    try simp only [PT]
    exact wpAnyH_cast (by kernel_rfl) (J2_7 s4a A4a n4a c4a gy v18 HX_18 q_18 s_18 g_18 N0_18 HP_y_18 (hJ (HG_y_j.out)))
    refine .cons rfl (fun K hK => ?_) .nil
    go_simp
    have HB_19 := hJ ((Below.refl v.heap.size v).alloc (Nat.le_refl _) (.cells #[.bool false, .slice none 0 0] 33))
    have HP_x_19 := hJ (P2.lit v 33 (.bool false) (.slice none 0 0))
    obtain ⟨v19, hV⟩ := nmz (World.alloc v (.cells #[.bool false, .slice none 0 0] 33))
    obtain ⟨gx, hg⟩ := nmz (v.heap.size)
    rw [hV] at HB_19 HP_x_19  ⊢
    rw [hg] at HP_x_19  ⊢
    have HG_x := hJ (show x3.heap.size ≤ gx by rw [← hg]; exact HX_j.out.size)
    have HN_y_x := hJ (show gy ≠ gx by have := HP_y_j.out.lt; rw [hg] at this; omega)
    have HX_19 := hJ (bt HX_j.out HB_19.out)
    have q_19 := hJ (PIo.new q_j.out HB_19.out)
    have s_19 := hJ (PIo.new s_j.out HB_19.out)
    have g_19 := hJ (PIo.new g_j.out HB_19.out)
    have HP_y_19 := hJ (HP_y_j.out.new HB_19.out)
    clear hHeld
    refine hK.out _ _ (HS4.out _ HX_19.out) (fun hHeld => ?_)
    clear hK K hV hg HB_19 HX_j q_j s_j g_j HP_y_j
    try simp only [PT]
    exact wpAnyH_cast (by kernel_rfl) (J6_7 gx gy v19 HX_19 q_19 s_19 g_19 HP_x_19 (hJ (HG_x.out)) HP_y_19 (hJ (HG_y_j.out)) (hJ (HN_y_x.out.symm)))
   subst hF ha0 hL0
   simp only [PT] at J2 J6 J7
   refine wpAnyH_ready (rs := [2, 6, 7]) (by kernel_rfl) (by simp) ?_
   refine .cons rfl (fun K hK => ?_) ?_
   go_simp
   go_at_call_of 102 (#[Value.agg #[.bool s2a, .slice A2a n2a c2a], Value.agg #[.bool s3, .slice A3 n3 c3]])
   refine (fdivided_any q g s2a s3 A2a A3 n2a c2a n3 c3 v0 (q_0.out) (g_0.out) (by omega) (by omega) HGF.out.1).mono ?_
   rintro e v20 ⟨s4a, A4a, n4a, c4a, rfl, hr, hk⟩
   have N0_20 := hJ (hr)
   have HB_20 := hJ hk
   go_wp2_with fail
   have HX_20 := hJ (bt HD0.out HB_20.out)
   have q_20 := hJ (PIo.new q_0.out HB_20.out)
   have s_20 := hJ (PIo.new s_0.out HB_20.out)
   have g_20 := hJ (PIo.new g_0.out HB_20.out)
   clear hHeld
   refine hK.out _ _ (HS4.out _ HX_20.out) (fun hHeld => ?_)
   clear hK K hk HB_20 hr HD0 q_0 s_0 g_0
   try simp only [PT]
   exact wpAnyH_cast (by kernel_rfl) (J2 s4a A4a n4a c4a v20 HX_20 q_20 s_20 g_20 N0_20)
   refine .cons rfl (fun K hK => ?_) ?_
   go_simp
   have HB_21 := hJ ((Below.refl v0.heap.size v0).alloc (Nat.le_refl _) (.cells #[.bool false, .slice none 0 0] 33))
   have HP_x_21 := hJ (P2.lit v0 33 (.bool false) (.slice none 0 0))
   obtain ⟨v21, hV⟩ := nmz (World.alloc v0 (.cells #[.bool false, .slice none 0 0] 33))
   obtain ⟨gx, hg⟩ := nmz (v0.heap.size)
   rw [hV] at HB_21 HP_x_21  ⊢
   rw [hg] at HP_x_21  ⊢
   have HG_x := hJ (show x3.heap.size ≤ gx by rw [← hg]; exact HD0.out.size)
   have HX_21 := hJ (bt HD0.out HB_21.out)
   have q_21 := hJ (PIo.new q_0.out HB_21.out)
   have s_21 := hJ (PIo.new s_0.out HB_21.out)
   have g_21 := hJ (PIo.new g_0.out HB_21.out)
   clear hHeld
   refine hK.out _ _ (HS4.out _ HX_21.out) (fun hHeld => ?_)
   clear hK K hV hg HB_21 HD0 q_0 s_0 g_0
   try simp only [PT]
   exact wpAnyH_cast (by kernel_rfl) (J6 gx v21 HX_21 q_21 s_21 g_21 HP_x_21 (hJ (HG_x.out)))
   refine .cons rfl (fun K hK => ?_) .nil
   go_simp
   have HB_22 := hJ ((Below.refl v0.heap.size v0).alloc (Nat.le_refl _) (.cells #[.bool false, .slice none 0 0] 33))
   have HP_y_22 := hJ (P2.lit v0 33 (.bool false) (.slice none 0 0))
   obtain ⟨v22, hV⟩ := nmz (World.alloc v0 (.cells #[.bool false, .slice none 0 0] 33))
   obtain ⟨gy, hg⟩ := nmz (v0.heap.size)
   rw [hV] at HB_22 HP_y_22  ⊢
   rw [hg] at HP_y_22  ⊢
   have HG_y := hJ (show x3.heap.size ≤ gy by rw [← hg]; exact HD0.out.size)
   have HX_22 := hJ (bt HD0.out HB_22.out)
   have q_22 := hJ (PIo.new q_0.out HB_22.out)
   have s_22 := hJ (PIo.new s_0.out HB_22.out)
   have g_22 := hJ (PIo.new g_0.out HB_22.out)
   clear hHeld
   refine hK.out _ _ (HS4.out _ HX_22.out) (fun hHeld => ?_)
   clear hK K hV hg HB_22 HD0 q_0 s_0 g_0
   try simp only [PT]
   exact wpAnyH_cast (by kernel_rfl) (J7 gy v22 HX_22 q_22 s_22 g_22 HP_y_22 (hJ (HG_y.out)))
  case rest =>
   obtain ⟨G4, H4, s4a, A4a, n4a, c4a, s4b, A4b, n4b, c4b, rfl, rfl, hq1, hq2, hr1, hr2, hbx⟩ := hcut
   have HQ4a := hJ hq1
   have HQ4b := hJ hq2
   have HR4a := hJ hr1
   have HR4b := hJ hr2
   have HB4 := hJ hbx
   obtain ⟨x4, rfl⟩ := nm_world hbx
   clear hq1 hq2 hr1 hr2 hbx HS4 HXX4
   have hn4a : n4a ≤ 512 := plim HR4a.out (by rw [HDF.out.2.1]; exact HGF.out.2.2.1)
   have hn4b : n4b ≤ 512 := plim HR4b.out (by rw [HDF.out.2.2]; exact HGF.out.2.2.2)
   have HQa_4 := hJ (HQa_3.out.new HB4.out)
   have HRa_4 := hJ (HRa_3.out.new HB4.out)
   have HQd_4 := hJ (HQd_3.out.new HB4.out)
   have HRd_4 := hJ (HRd_3.out.new HB4.out)
   have HQz_4 := hJ (HQz_3.out.new HB4.out)
   have HRz_4 := hJ (HRz_3.out.new HB4.out)
   have HQ2a_4 := hJ (HQ2a_3.out.new HB4.out)
   have HR2a_4 := hJ (PIo.new HR2a_3.out HB4.out)
   have HQ2b_4 := hJ (HQ2b_3.out.new HB4.out)
   have HR2b_4 := hJ (PIo.new HR2b_3.out HB4.out)
   have HQ3_4 := hJ (HQ3.out.new HB4.out)
   have HR3_4 := hJ (PIo.new HR3.out HB4.out)
   have HW_4 := hJ (bt HW_3.out HB4.out)
   clear HQa_3 HRa_3 HQd_3 HRd_3 HQz_3 HRz_3 HQ2a_3 HR2a_3 HQ2b_3 HR2b_3 HQ3 HR3 HW_3 HB4
   rw [HDF.out.2.1] at HR4a
   rw [HDF.out.2.2] at HR4b
   obtain ⟨cla0_4, cla1_4, cla2_4, cla3_4⟩ := HQa_4.out.cells
   obtain ⟨clsp0_5, clsp1_5⟩ := HQ4b.out.cells
   obtain ⟨x5, hx5⟩ := nmz (x4.alloc (.cells #[.bool s4b, .slice A4b n4b c4b] 33))
   have HB5 := hJ (show Below x4.heap.size x4 x5 by rw [← hx5]; exact (Below.refl _ _).alloc (Nat.le_refl _) _)
   have HY5 := hJ (show Pel x5 x4.heap.size [sp] ∧ x4.heap.size < x5.heap.size by rw [← hx5]; exact ⟨pel_lit1 HR4b.out HGF.out.2.2.2, by simp⟩)
   have HQa_5 := hJ (HQa_4.out.new HB5.out)
   have HRa_5 := hJ (HRa_4.out.new HB5.out)
   have HQd_5 := hJ (HQd_4.out.new HB5.out)
   have HRd_5 := hJ (HRd_4.out.new HB5.out)
   have HQz_5 := hJ (HQz_4.out.new HB5.out)
   have HRz_5 := hJ (HRz_4.out.new HB5.out)
   have HQ2a_5 := hJ (HQ2a_4.out.new HB5.out)
   have HR2a_5 := hJ (PIo.new HR2a_4.out HB5.out)
   have HQ2b_5 := hJ (HQ2b_4.out.new HB5.out)
   have HR2b_5 := hJ (PIo.new HR2b_4.out HB5.out)
   have HQ3_5 := hJ (HQ3_4.out.new HB5.out)
   have HR3_5 := hJ (PIo.new HR3_4.out HB5.out)
   have HQ4a_5 := hJ (HQ4a.out.new HB5.out)
   have HR4a_5 := hJ (PIo.new HR4a.out HB5.out)
   have HQ4b_5 := hJ (HQ4b.out.new HB5.out)
   have HR4b_5 := hJ (PIo.new HR4b.out HB5.out)
   have HW_5 := hJ (bt HW_4.out HB5.out)
   clear HQa_4 HRa_4 HQd_4 HRd_4 HQz_4 HRz_4 HQ2a_4 HR2a_4 HQ2b_4 HR2b_4 HQ3_4 HR3_4 HQ4a HR4a HQ4b HR4b HW_4 HB5
   go_wp2_with fail
   refine (fproduct_any [sp] p sa Aa na ca x4.heap.size 1 x5 (HRa_5.out.1) HL0.out.2.2.1 HY5.out.1 HY5.out.2 rfl (by decide)).mono ?_
   rw [(pv_one (p) (sp)).1, (pv_one (p) (sp)).2]
   rintro e w6 ⟨s6, A6, n6, c6, rfl, hr6, hb6⟩
   obtain ⟨x6, hx6⟩ := nmz (w6.alloc (.cells #[.bool s6, .slice A6 n6 c6] 33))
   have HB6 := hJ (show Below x5.heap.size x5 x6 by rw [← hx6]; exact hb6.alloc hb6.size _)
   have HQ6 := hJ (show P2 33 x6 w6.heap.size (.bool s6) (.slice A6 n6 c6) by rw [← hx6]; exact P2.lit _ _ _ _)
   have HR6 := hJ (show PI x6 s6 A6 n6 c6 (outV (p * sp)) by rw [← hx6]; exact PIo.new hr6 ((Below.refl _ _).alloc (Nat.le_refl _) _))
   have hn6 : n6 ≤ 512 := plim hr6 (outV_lim _)
   clear hr6 hb6
   have HQa_6 := hJ (HQa_5.out.new HB6.out)
   have HRa_6 := hJ (HRa_5.out.new HB6.out)
   have HQd_6 := hJ (HQd_5.out.new HB6.out)
   have HRd_6 := hJ (HRd_5.out.new HB6.out)
   have HQz_6 := hJ (HQz_5.out.new HB6.out)
   have HRz_6 := hJ (HRz_5.out.new HB6.out)
   have HQ2a_6 := hJ (HQ2a_5.out.new HB6.out)
   have HR2a_6 := hJ (PIo.new HR2a_5.out HB6.out)
   have HQ2b_6 := hJ (HQ2b_5.out.new HB6.out)
   have HR2b_6 := hJ (PIo.new HR2b_5.out HB6.out)
   have HQ3_6 := hJ (HQ3_5.out.new HB6.out)
   have HR3_6 := hJ (PIo.new HR3_5.out HB6.out)
   have HQ4a_6 := hJ (HQ4a_5.out.new HB6.out)
   have HR4a_6 := hJ (PIo.new HR4a_5.out HB6.out)
   have HQ4b_6 := hJ (HQ4b_5.out.new HB6.out)
   have HR4b_6 := hJ (PIo.new HR4b_5.out HB6.out)
   have HW_6 := hJ (bt HW_5.out HB6.out)
   clear HQa_5 HRa_5 HQd_5 HRd_5 HQz_5 HRz_5 HQ2a_5 HR2a_5 HQ2b_5 HR2b_5 HQ3_5 HR3_5 HQ4a_5 HR4a_5 HQ4b_5 HR4b_5 HW_5 cla0_4 cla1_4 cla2_4 cla3_4 clsp0_5 clsp1_5 hx5 HB6
   obtain ⟨clb0_6, clb1_6, clb2_6, clb3_6⟩ := HQd_6.out.cells
   obtain ⟨clqp0_7, clqp1_7⟩ := HQ4a_6.out.cells
   obtain ⟨x7, hx7⟩ := nmz (x6.alloc (.cells #[.bool s4a, .slice A4a n4a c4a] 33))
   have HB7 := hJ (show Below x6.heap.size x6 x7 by rw [← hx7]; exact (Below.refl _ _).alloc (Nat.le_refl _) _)
   have HY7 := hJ (show Pel x7 x6.heap.size [qp] ∧ x6.heap.size < x7.heap.size by rw [← hx7]; exact ⟨pel_lit1 HR4a_6.out HGF.out.2.2.1, by simp⟩)
   have HQa_7 := hJ (HQa_6.out.new HB7.out)
   have HRa_7 := hJ (HRa_6.out.new HB7.out)
   have HQd_7 := hJ (HQd_6.out.new HB7.out)
   have HRd_7 := hJ (HRd_6.out.new HB7.out)
   have HQz_7 := hJ (HQz_6.out.new HB7.out)
   have HRz_7 := hJ (HRz_6.out.new HB7.out)
   have HQ2a_7 := hJ (HQ2a_6.out.new HB7.out)
   have HR2a_7 := hJ (PIo.new HR2a_6.out HB7.out)
   have HQ2b_7 := hJ (HQ2b_6.out.new HB7.out)
   have HR2b_7 := hJ (PIo.new HR2b_6.out HB7.out)
   have HQ3_7 := hJ (HQ3_6.out.new HB7.out)
   have HR3_7 := hJ (PIo.new HR3_6.out HB7.out)
   have HQ4a_7 := hJ (HQ4a_6.out.new HB7.out)
   have HR4a_7 := hJ (PIo.new HR4a_6.out HB7.out)
   have HQ4b_7 := hJ (HQ4b_6.out.new HB7.out)
   have HR4b_7 := hJ (PIo.new HR4b_6.out HB7.out)
   have HQ6_7 := hJ (HQ6.out.new HB7.out)
   have HR6_7 := hJ (PIo.new HR6.out HB7.out)
   have HW_7 := hJ (bt HW_6.out HB7.out)
   clear HQa_6 HRa_6 HQd_6 HRd_6 HQz_6 HRz_6 HQ2a_6 HR2a_6 HQ2b_6 HR2b_6 HQ3_6 HR3_6 HQ4a_6 HR4a_6 HQ4b_6 HR4b_6 HQ6 HR6 HW_6 HB7
   go_wp2_with fail
   refine (fproduct_any [qp] r sd Ad nd cd x6.heap.size 1 x7 (HRd_7.out.1) HL0.out.2.2.2.2.1 HY7.out.1 HY7.out.2 rfl (by decide)).mono ?_
   rw [(pv_one (r) (qp)).1, (pv_one (r) (qp)).2]
   rintro e w8 ⟨s8, A8, n8, c8, rfl, hr8, hb8⟩
   obtain ⟨x8, hx8⟩ := nmz (w8.alloc (.cells #[.bool s8, .slice A8 n8 c8] 33))
   have HB8 := hJ (show Below x7.heap.size x7 x8 by rw [← hx8]; exact hb8.alloc hb8.size _)
   have HQ8 := hJ (show P2 33 x8 w8.heap.size (.bool s8) (.slice A8 n8 c8) by rw [← hx8]; exact P2.lit _ _ _ _)
   have HR8 := hJ (show PI x8 s8 A8 n8 c8 (outV (r * qp)) by rw [← hx8]; exact PIo.new hr8 ((Below.refl _ _).alloc (Nat.le_refl _) _))
   have hn8 : n8 ≤ 512 := plim hr8 (outV_lim _)
   clear hr8 hb8
   have HQa_8 := hJ (HQa_7.out.new HB8.out)
   have HRa_8 := hJ (HRa_7.out.new HB8.out)
   have HQd_8 := hJ (HQd_7.out.new HB8.out)
   have HRd_8 := hJ (HRd_7.out.new HB8.out)
   have HQz_8 := hJ (HQz_7.out.new HB8.out)
   have HRz_8 := hJ (HRz_7.out.new HB8.out)
   have HQ2a_8 := hJ (HQ2a_7.out.new HB8.out)
   have HR2a_8 := hJ (PIo.new HR2a_7.out HB8.out)
   have HQ2b_8 := hJ (HQ2b_7.out.new HB8.out)
   have HR2b_8 := hJ (PIo.new HR2b_7.out HB8.out)
   have HQ3_8 := hJ (HQ3_7.out.new HB8.out)
   have HR3_8 := hJ (PIo.new HR3_7.out HB8.out)
   have HQ4a_8 := hJ (HQ4a_7.out.new HB8.out)
   have HR4a_8 := hJ (PIo.new HR4a_7.out HB8.out)
   have HQ4b_8 := hJ (HQ4b_7.out.new HB8.out)
   have HR4b_8 := hJ (PIo.new HR4b_7.out HB8.out)
   have HQ6_8 := hJ (HQ6_7.out.new HB8.out)
   have HR6_8 := hJ (PIo.new HR6_7.out HB8.out)
   have HW_8 := hJ (bt HW_7.out HB8.out)
   clear HQa_7 HRa_7 HQd_7 HRd_7 HQz_7 HRz_7 HQ2a_7 HR2a_7 HQ2b_7 HR2b_7 HQ3_7 HR3_7 HQ4a_7 HR4a_7 HQ4b_7 HR4b_7 HQ6_7 HR6_7 HW_7 hx6 clb0_6 clb1_6 clb2_6 clb3_6 clqp0_7 clqp1_7 hx7 HB8
   obtain ⟨clqp0_8, clqp1_8⟩ := HQ4a_8.out.cells
   obtain ⟨cls0_9, cls1_9⟩ := HQ2b_8.out.cells
   obtain ⟨x9, hx9⟩ := nmz (x8.alloc (.cells #[.bool s2b, .slice A2b n2b c2b] 33))
   have HB9 := hJ (show Below x8.heap.size x8 x9 by rw [← hx9]; exact (Below.refl _ _).alloc (Nat.le_refl _) _)
   have HY9 := hJ (show Pel x9 x8.heap.size [s] ∧ x8.heap.size < x9.heap.size by rw [← hx9]; exact ⟨pel_lit1 HR2b_8.out HL0.out.2.2.2.2.2, by simp⟩)
   have HQa_9 := hJ (HQa_8.out.new HB9.out)
   have HRa_9 := hJ (HRa_8.out.new HB9.out)
   have HQd_9 := hJ (HQd_8.out.new HB9.out)
   have HRd_9 := hJ (HRd_8.out.new HB9.out)
   have HQz_9 := hJ (HQz_8.out.new HB9.out)
   have HRz_9 := hJ (HRz_8.out.new HB9.out)
   have HQ2a_9 := hJ (HQ2a_8.out.new HB9.out)
   have HR2a_9 := hJ (PIo.new HR2a_8.out HB9.out)
   have HQ2b_9 := hJ (HQ2b_8.out.new HB9.out)
   have HR2b_9 := hJ (PIo.new HR2b_8.out HB9.out)
   have HQ3_9 := hJ (HQ3_8.out.new HB9.out)
   have HR3_9 := hJ (PIo.new HR3_8.out HB9.out)
   have HQ4a_9 := hJ (HQ4a_8.out.new HB9.out)
   have HR4a_9 := hJ (PIo.new HR4a_8.out HB9.out)
   have HQ4b_9 := hJ (HQ4b_8.out.new HB9.out)
   have HR4b_9 := hJ (PIo.new HR4b_8.out HB9.out)
   have HQ6_9 := hJ (HQ6_8.out.new HB9.out)
   have HR6_9 := hJ (PIo.new HR6_8.out HB9.out)
   have HQ8_9 := hJ (HQ8.out.new HB9.out)
   have HR8_9 := hJ (PIo.new HR8.out HB9.out)
   have HW_9 := hJ (bt HW_8.out HB9.out)
   clear HQa_8 HRa_8 HQd_8 HRd_8 HQz_8 HRz_8 HQ2a_8 HR2a_8 HQ2b_8 HR2b_8 HQ3_8 HR3_8 HQ4a_8 HR4a_8 HQ4b_8 HR4b_8 HQ6_8 HR6_8 HQ8 HR8 HW_8 HB9
   go_wp2_with fail
   refine (fproduct_any [s] qp s4a A4a n4a c4a x8.heap.size 1 x9 (HR4a_9.out) HGF.out.2.2.1 HY9.out.1 HY9.out.2 rfl (by decide)).mono ?_
   rw [(pv_one (qp) (s)).1, (pv_one (qp) (s)).2]
   rintro e w10 ⟨s10, A10, n10, c10, rfl, hr10, hb10⟩
   obtain ⟨x10, hx10⟩ := nmz (w10.alloc (.cells #[.bool s10, .slice A10 n10 c10] 33))
   have HB10 := hJ (show Below x9.heap.size x9 x10 by rw [← hx10]; exact hb10.alloc hb10.size _)
   have HQ10 := hJ (show P2 33 x10 w10.heap.size (.bool s10) (.slice A10 n10 c10) by rw [← hx10]; exact P2.lit _ _ _ _)
   have HR10 := hJ (show PI x10 s10 A10 n10 c10 (outV (qp * s)) by rw [← hx10]; exact PIo.new hr10 ((Below.refl _ _).alloc (Nat.le_refl _) _))
   have hn10 : n10 ≤ 512 := plim hr10 (outV_lim _)
   clear hr10 hb10
   have HQa_10 := hJ (HQa_9.out.new HB10.out)
   have HRa_10 := hJ (HRa_9.out.new HB10.out)
   have HQd_10 := hJ (HQd_9.out.new HB10.out)
   have HRd_10 := hJ (HRd_9.out.new HB10.out)
   have HQz_10 := hJ (HQz_9.out.new HB10.out)
   have HRz_10 := hJ (HRz_9.out.new HB10.out)
   have HQ2a_10 := hJ (HQ2a_9.out.new HB10.out)
   have HR2a_10 := hJ (PIo.new HR2a_9.out HB10.out)
   have HQ2b_10 := hJ (HQ2b_9.out.new HB10.out)
   have HR2b_10 := hJ (PIo.new HR2b_9.out HB10.out)
   have HQ3_10 := hJ (HQ3_9.out.new HB10.out)
   have HR3_10 := hJ (PIo.new HR3_9.out HB10.out)
   have HQ4a_10 := hJ (HQ4a_9.out.new HB10.out)
   have HR4a_10 := hJ (PIo.new HR4a_9.out HB10.out)
   have HQ4b_10 := hJ (HQ4b_9.out.new HB10.out)
   have HR4b_10 := hJ (PIo.new HR4b_9.out HB10.out)
   have HQ6_10 := hJ (HQ6_9.out.new HB10.out)
   have HR6_10 := hJ (PIo.new HR6_9.out HB10.out)
   have HQ8_10 := hJ (HQ8_9.out.new HB10.out)
   have HR8_10 := hJ (PIo.new HR8_9.out HB10.out)
   have HW_10 := hJ (bt HW_9.out HB10.out)
   clear HQa_9 HRa_9 HQd_9 HRd_9 HQz_9 HRz_9 HQ2a_9 HR2a_9 HQ2b_9 HR2b_9 HQ3_9 HR3_9 HQ4a_9 HR4a_9 HQ4b_9 HR4b_9 HQ6_9 HR6_9 HQ8_9 HR8_9 HW_9 hx8 clqp0_8 clqp1_8 cls0_9 cls1_9 hx9 HB10
   obtain ⟨clleft0_11, clleft1_11⟩ := HQ6_10.out.cells
   obtain ⟨clright0_11, clright1_11⟩ := HQ8_10.out.cells
   go_wp2_with fail
   refine (padd_any (outV (p * sp)) (outV (r * qp)) s6 s8 A6 A8 n6 c6 n8 c8 x10 HR6_10.out HR8_10.out (by omega) (by omega) (outV_lim _) (outV_lim _)).mono ?_
   rintro e w11 ⟨s11, A11, n11, c11, rfl, hr11, hb11⟩
   obtain ⟨x11, hx11⟩ := nmz (w11.alloc (.cells #[.bool s11, .slice A11 n11 c11] 33))
   have HB11 := hJ (show Below x10.heap.size x10 x11 by rw [← hx11]; exact hb11.alloc hb11.size _)
   have HQ11 := hJ (show P2 33 x11 w11.heap.size (.bool s11) (.slice A11 n11 c11) by rw [← hx11]; exact P2.lit _ _ _ _)
   have HR11 := hJ (show PI x11 s11 A11 n11 c11 (outV (outV (p * sp) + outV (r * qp))) by rw [← hx11]; exact PIo.new hr11 ((Below.refl _ _).alloc (Nat.le_refl _) _))
   have hn11 : n11 ≤ 512 := plim hr11 (outV_lim _)
   clear hr11 hb11
   have HQa_11 := hJ (HQa_10.out.new HB11.out)
   have HRa_11 := hJ (HRa_10.out.new HB11.out)
   have HQd_11 := hJ (HQd_10.out.new HB11.out)
   have HRd_11 := hJ (HRd_10.out.new HB11.out)
   have HQz_11 := hJ (HQz_10.out.new HB11.out)
   have HRz_11 := hJ (HRz_10.out.new HB11.out)
   have HQ2a_11 := hJ (HQ2a_10.out.new HB11.out)
   have HR2a_11 := hJ (PIo.new HR2a_10.out HB11.out)
   have HQ2b_11 := hJ (HQ2b_10.out.new HB11.out)
   have HR2b_11 := hJ (PIo.new HR2b_10.out HB11.out)
   have HQ3_11 := hJ (HQ3_10.out.new HB11.out)
   have HR3_11 := hJ (PIo.new HR3_10.out HB11.out)
   have HQ4a_11 := hJ (HQ4a_10.out.new HB11.out)
   have HR4a_11 := hJ (PIo.new HR4a_10.out HB11.out)
   have HQ4b_11 := hJ (HQ4b_10.out.new HB11.out)
   have HR4b_11 := hJ (PIo.new HR4b_10.out HB11.out)
   have HQ6_11 := hJ (HQ6_10.out.new HB11.out)
   have HR6_11 := hJ (PIo.new HR6_10.out HB11.out)
   have HQ8_11 := hJ (HQ8_10.out.new HB11.out)
   have HR8_11 := hJ (PIo.new HR8_10.out HB11.out)
   have HQ10_11 := hJ (HQ10.out.new HB11.out)
   have HR10_11 := hJ (PIo.new HR10.out HB11.out)
   have HW_11 := hJ (bt HW_10.out HB11.out)
   clear HQa_10 HRa_10 HQd_10 HRd_10 HQz_10 HRz_10 HQ2a_10 HR2a_10 HQ2b_10 HR2b_10 HQ3_10 HR3_10 HQ4a_10 HR4a_10 HQ4b_10 HR4b_10 HQ6_10 HR6_10 HQ8_10 HR8_10 HQ10 HR10 HW_10 hx10 clleft0_11 clleft1_11 clright0_11 clright1_11 HB11
   obtain ⟨x12, hx12⟩ := nmz (x11.alloc (.cells #[.int .i64 (outC (p * sp)), .int .i64 (outC (r * qp)), .int .i64 (outC (outV (p * sp) + outV (r * qp))), .int .i64 (outC (qp * s))] 36))
   have HB12 := hJ (show Below x11.heap.size x11 x12 by rw [← hx12]; exact (Below.refl _ _).alloc (Nat.le_refl _) _)
   have HY12 := hJ (show Codes x12 x11.heap.size [outC (p * sp), outC (r * qp), outC (outV (p * sp) + outV (r * qp)), outC (qp * s)] by rw [← hx12]; exact codes_lit4 _ _ _ _)
   have HQa_12 := hJ (HQa_11.out.new HB12.out)
   have HRa_12 := hJ (HRa_11.out.new HB12.out)
   have HQd_12 := hJ (HQd_11.out.new HB12.out)
   have HRd_12 := hJ (HRd_11.out.new HB12.out)
   have HQz_12 := hJ (HQz_11.out.new HB12.out)
   have HRz_12 := hJ (HRz_11.out.new HB12.out)
   have HQ2a_12 := hJ (HQ2a_11.out.new HB12.out)
   have HR2a_12 := hJ (PIo.new HR2a_11.out HB12.out)
   have HQ2b_12 := hJ (HQ2b_11.out.new HB12.out)
   have HR2b_12 := hJ (PIo.new HR2b_11.out HB12.out)
   have HQ3_12 := hJ (HQ3_11.out.new HB12.out)
   have HR3_12 := hJ (PIo.new HR3_11.out HB12.out)
   have HQ4a_12 := hJ (HQ4a_11.out.new HB12.out)
   have HR4a_12 := hJ (PIo.new HR4a_11.out HB12.out)
   have HQ4b_12 := hJ (HQ4b_11.out.new HB12.out)
   have HR4b_12 := hJ (PIo.new HR4b_11.out HB12.out)
   have HQ6_12 := hJ (HQ6_11.out.new HB12.out)
   have HR6_12 := hJ (PIo.new HR6_11.out HB12.out)
   have HQ8_12 := hJ (HQ8_11.out.new HB12.out)
   have HR8_12 := hJ (PIo.new HR8_11.out HB12.out)
   have HQ10_12 := hJ (HQ10_11.out.new HB12.out)
   have HR10_12 := hJ (PIo.new HR10_11.out HB12.out)
   have HQ11_12 := hJ (HQ11.out.new HB12.out)
   have HR11_12 := hJ (PIo.new HR11.out HB12.out)
   have HW_12 := hJ (bt HW_11.out HB12.out)
   clear HQa_11 HRa_11 HQd_11 HRd_11 HQz_11 HRz_11 HQ2a_11 HR2a_11 HQ2b_11 HR2b_11 HQ3_11 HR3_11 HQ4a_11 HR4a_11 HQ4b_11 HR4b_11 HQ6_11 HR6_11 HQ8_11 HR8_11 HQ10_11 HR10_11 HQ11 HR11 HW_11 HB12
   go_wp2_with fail
   refine (ferror_any [outC (p * sp), outC (r * qp), outC (outV (p * sp) + outV (r * qp)), outC (qp * s)] x11.heap.size 4 x12 HY12.out rfl (by decide)).mono ?_
   have HCC := hJ (ad_codes (p := p) (r := r) HDF.out.1 HDF.out.2.1 HDF.out.2.2 HGF.out.1 HGF.out.2.1)
   obtain ⟨u, hu⟩ : ∃ u, feV [outC (p * sp), outC (r * qp), outC (outV (p * sp) + outV (r * qp)), outC (qp * s)] = u := ⟨_, rfl⟩
   rw [hu] at HCC ⊢
   clear hu
   rintro e w' ⟨rfl, rfl⟩
   by_cases hu : u = 0
   ·have HE := hJ (HCC.out.1 hu)
    subst hu
    clear HCC
    rw [HE.out.1] at HR11_12
    rw [HE.out.2.1] at HR10_12
    obtain ⟨N, hN⟩ : ∃ x, adN p q r s = x := ⟨_, rfl⟩
    obtain ⟨D, hD⟩ : ∃ x, adD q s = x := ⟨_, rfl⟩
    rw [hN] at HR11_12 HE
    rw [hD] at HR10_12 HE
    have HND := hJ (And.intro hN hD)
    clear hN hD
    clear HRa_12 HQa_12 HRd_12 HQd_12 HR2a_12 HQ2a_12 HR2b_12 HQ2b_12 HR4a_12 HQ4a_12 HR4b_12 HQ4b_12 HR6_12 HQ6_12 HR8_12 HQ8_12
    obtain ⟨clnum0_14, clnum1_14⟩ := HQ11_12.out.cells
    obtain ⟨clg0_14, clg1_14⟩ := HQ3_12.out.cells
    go_wp2_with fail
    refine (fcommon_any N g s11 s3 A11 A3 n11 c11 n3 c3 x12 HR11_12.out HR3_12.out (by omega) (by omega)).mono ?_
    rintro e w14 ⟨s14, A14, n14, c14, rfl, hr14, hb14⟩
    obtain ⟨x14, hx14⟩ := nmz (w14.alloc (.cells #[.bool s14, .slice A14 n14 c14] 33))
    have HB14 := hJ (show Below x12.heap.size x12 x14 by rw [← hx14]; exact hb14.alloc hb14.size _)
    have HQ14 := hJ (show P2 33 x14 w14.heap.size (.bool s14) (.slice A14 n14 c14) by rw [← hx14]; exact P2.lit _ _ _ _)
    have HR14 := hJ (show PI x14 s14 A14 n14 c14 (((Nat.gcd N.natAbs g.natAbs : Nat) : Int)) by rw [← hx14]; exact PIo.new hr14 ((Below.refl _ _).alloc (Nat.le_refl _) _))
    have hn14 : n14 ≤ 512 := plim hr14 HE.out.2.2.2.2.1
    clear hr14 hb14
    have HQz_14 := hJ (HQz_12.out.new HB14.out)
    have HRz_14 := hJ (HRz_12.out.new HB14.out)
    have HQ3_14 := hJ (HQ3_12.out.new HB14.out)
    have HR3_14 := hJ (PIo.new HR3_12.out HB14.out)
    have HQ10_14 := hJ (HQ10_12.out.new HB14.out)
    have HR10_14 := hJ (PIo.new HR10_12.out HB14.out)
    have HQ11_14 := hJ (HQ11_12.out.new HB14.out)
    have HR11_14 := hJ (PIo.new HR11_12.out HB14.out)
    have HW_14 := hJ (bt HW_12.out HB14.out)
    clear HQz_12 HRz_12 HQ3_12 HR3_12 HQ10_12 HR10_12 HQ11_12 HR11_12 HW_12 hx11 hx12 clnum0_14 clnum1_14 clg0_14 clg1_14 HB14
    have HSH := hJ HE.out.2.2.2.2
    obtain ⟨H, hH⟩ : ∃ x, ((Nat.gcd N.natAbs g.natAbs : Nat) : Int) = x := ⟨_, rfl⟩
    rw [hH] at HR14 HSH
    have HHE := hJ hH
    clear hH
    obtain ⟨gN, hgN⟩ : ∃ g, w11.heap.size = g := ⟨_, rfl⟩
    obtain ⟨gD, hgD⟩ : ∃ g, w10.heap.size = g := ⟨_, rfl⟩
    obtain ⟨gS, hgS⟩ : ∃ g, w14.heap.size = g := ⟨_, rfl⟩
    rw [hgN] at HQ11_14
    rw [hgD] at HQ10_14
    rw [hgS] at HQ14
    have HGN := hJ (show gN ≠ h + 1 + 1 ∧ gD ≠ h + 1 + 1 ∧ gS ≠ h + 1 + 1 from ⟨P2_ne_P4 HQ11_14.out HQz_14.out, P2_ne_P4 HQ10_14.out HQz_14.out, P2_ne_P4 HQ14.out HQz_14.out⟩)
    go_upto_region 12 with fail
    clear hgN hgD hgS hx14
    have HRES := hJ (ad_ok HE.out.2.2.1 HE.out.2.2.2.1 HND.out.1 HND.out.2 HDF.out.1 HHE.out)
    obtain ⟨v0, hv0⟩ := nmz (World.drew x14)
    have HD0 := hJ (show Below x14.heap.size x14 v0 by rw [← hv0]; exact (Below.refl _ _).drew)
    have HX_0 := hJ (bt HW_14.out HD0.out)
    have num_0 := hJ (PIo.new HR11_14.out HD0.out)
    have den_0 := hJ (PIo.new HR10_14.out HD0.out)
    have sh_0 := hJ (PIo.new HR14.out HD0.out)
    have HP_num_0 := hJ (HQ11_14.out.new HD0.out)
    have HP_den_0 := hJ (HQ10_14.out.new HD0.out)
    have HP_sh_0 := hJ (HQ14.out.new HD0.out)
    have HP_z_0 := hJ (HQz_14.out.new HD0.out)
    refine wp_region_held_drew (S := (fun w' : World => w'.cell? ⟨gN, 0, none⟩ = some (.bool s11) ∧ w'.cell? ⟨gN, 1, none⟩ = some (.slice A11 n11 c11) ∧ w'.cell? ⟨gD, 0, none⟩ = some (.bool s10) ∧ w'.cell? ⟨gD, 1, none⟩ = some (.slice A10 n10 c10) ∧ w'.cell? ⟨gS, 0, none⟩ = some (.bool s14) ∧ w'.cell? ⟨gS, 1, none⟩ = some (.slice A14 n14 c14) ∧ Below w.heap.size w w')) (by kernel_rfl) ?_ (fun hHeld => ?_)
    ·rw [hv0]
     exact ⟨HP_num_0.out.cells.1, HP_num_0.out.cells.2, HP_den_0.out.cells.1, HP_den_0.out.cells.2, HP_sh_0.out.cells.1, HP_sh_0.out.cells.2, HX_0.out⟩
    rw [hv0] at hHeld ⊢
    clear hv0 HD0
    refine tq 0 ?_
    try simp only [PT]
    refine tq 1 ?_
    try simp only [PT]
    refine tq 3 ?_
    try simp only [PT]
    refine tq 4 ?_
    try simp only [PT]
    refine wpAnyH_ready (rs := [2]) (by kernel_rfl) (by simp) ?_
    refine .cons rfl (fun K hK => ?_) .nil
    go_simp
    go_at_call_of 102 (#[Value.agg #[.bool s11, .slice A11 n11 c11], Value.agg #[.bool s14, .slice A14 n14 c14]])
    refine (fdivided_any N H s11 s14 A11 A14 n11 c11 n14 c14 v0 (num_0.out) (sh_0.out) (by omega) (by omega) HSH.out.2.1).mono ?_
    rintro e v1 ⟨t5, T5, m5, d5, rfl, hr, hk⟩
    have R5_1 := hJ (hr)
    have HB_1 := hJ hk
    go_wp2_with fail
    have HX_1 := hJ (bt HX_0.out HB_1.out)
    have num_1 := hJ (PIo.new num_0.out HB_1.out)
    have den_1 := hJ (PIo.new den_0.out HB_1.out)
    have sh_1 := hJ (PIo.new sh_0.out HB_1.out)
    have HP_num_1 := hJ (HP_num_0.out.new HB_1.out)
    have HP_den_1 := hJ (HP_den_0.out.new HB_1.out)
    have HP_sh_1 := hJ (HP_sh_0.out.new HB_1.out)
    have HP_z_1 := hJ (HP_z_0.out.new HB_1.out)
    clear hHeld
    refine hK.out _ _ (⟨HP_num_1.out.cells.1, HP_num_1.out.cells.2, HP_den_1.out.cells.1, HP_den_1.out.cells.2, HP_sh_1.out.cells.1, HP_sh_1.out.cells.2, HX_1.out⟩) (fun hHeld => ?_)
    clear hK K hk HB_1 hr HX_0 num_0 den_0 sh_0 HP_num_0 HP_den_0 HP_sh_0 HP_z_0
    try simp only [PT]
    refine wpAnyH_ready (rs := [5]) (by kernel_rfl) (by simp) ?_
    refine .cons rfl (fun K hK => ?_) .nil
    go_simp
    go_at_call_of 102 (#[Value.agg #[.bool s10, .slice A10 n10 c10], Value.agg #[.bool s14, .slice A14 n14 c14]])
    refine (fdivided_any D H s10 s14 A10 A14 n10 c10 n14 c14 v1 (den_1.out) (sh_1.out) (by omega) (by omega) HSH.out.2.1).mono ?_
    rintro e v2 ⟨t6, T6, m6, d6, rfl, hr, hk⟩
    have R6_2 := hJ (hr)
    have HB_2 := hJ hk
    go_wp2_with fail
    have HX_2 := hJ (bt HX_1.out HB_2.out)
    have num_2 := hJ (PIo.new num_1.out HB_2.out)
    have den_2 := hJ (PIo.new den_1.out HB_2.out)
    have sh_2 := hJ (PIo.new sh_1.out HB_2.out)
    have R5_2 := hJ (PIo.new R5_1.out HB_2.out)
    have HP_num_2 := hJ (HP_num_1.out.new HB_2.out)
    have HP_den_2 := hJ (HP_den_1.out.new HB_2.out)
    have HP_sh_2 := hJ (HP_sh_1.out.new HB_2.out)
    have HP_z_2 := hJ (HP_z_1.out.new HB_2.out)
    clear hHeld
    refine hK.out _ _ (⟨HP_num_2.out.cells.1, HP_num_2.out.cells.2, HP_den_2.out.cells.1, HP_den_2.out.cells.2, HP_sh_2.out.cells.1, HP_sh_2.out.cells.2, HX_2.out⟩) (fun hHeld => ?_)
    clear hK K hk HB_2 hr HX_1 num_1 den_1 sh_1 R5_1 HP_num_1 HP_den_1 HP_sh_1 HP_z_1
    try simp only [PT]
    refine wpAnyH_ready (rs := [6]) (by kernel_rfl) (by simp) ?_
    refine .cons rfl (fun K hK => ?_) .nil
    go_simp
    go_at_call 101
    refine (flowest_any (N / H) (D / H) t5 t6 T5 T6 m5 d5 m6 d6 v2 (R5_2.out) (R6_2.out) (by have := plim R6_2.out HSH.out.2.2.2; omega)).mono ?_
    rintro e v3 ⟨t7, T7, m7, d7, t8, T8, m8, d8, rfl, hr, hk⟩
    have R7_3 := hJ (hr)
    have HB_3 := hJ hk
    go_wp2_with fail
    have HX_3 := hJ (bt HX_2.out HB_3.out)
    have num_3 := hJ (PIo.new num_2.out HB_3.out)
    have den_3 := hJ (PIo.new den_2.out HB_3.out)
    have sh_3 := hJ (PIo.new sh_2.out HB_3.out)
    have R5_3 := hJ (PIo.new R5_2.out HB_3.out)
    have R6_3 := hJ (PIo.new R6_2.out HB_3.out)
    have HP_num_3 := hJ (HP_num_2.out.new HB_3.out)
    have HP_den_3 := hJ (HP_den_2.out.new HB_3.out)
    have HP_sh_3 := hJ (HP_sh_2.out.new HB_3.out)
    have HP_z_3 := hJ (HP_z_2.out.new HB_3.out)
    clear hHeld
    refine hK.out _ _ (⟨HP_num_3.out.cells.1, HP_num_3.out.cells.2, HP_den_3.out.cells.1, HP_den_3.out.cells.2, HP_sh_3.out.cells.1, HP_sh_3.out.cells.2, HX_3.out⟩) (fun hHeld => ?_)
    clear hK K hk HB_3 hr HX_2 num_2 den_2 sh_2 R5_2 R6_2 HP_num_2 HP_den_2 HP_sh_2 HP_z_2
    try simp only [PT]
    refine wpAnyH_ready (rs := [7]) (by kernel_rfl) (by simp) ?_
    refine .cons rfl (fun K hK => ?_) .nil
    obtain ⟨z0, z1, z2, z3⟩ := HP_z_3.out.cells
    have y0 := HP_z_3.out.frozen 0
    have y1 := HP_z_3.out.frozen 1
    have y2 := HP_z_3.out.frozen 2
    have y3 := HP_z_3.out.frozen 3
    have z9 := HP_z_3.out.lt
    go_simp
    obtain ⟨v4, hV⟩ := nmz (World.setCell (World.setCell (World.setCell (World.setCell v3 ⟨(h + 1 + 1), 0, none⟩ (.bool t7)) ⟨(h + 1 + 1), 1, none⟩ (.slice T7 m7 d7)) ⟨(h + 1 + 1), 2, none⟩ (.bool t8)) ⟨(h + 1 + 1), 3, none⟩ (.slice T8 m8 d8))
    rw [hV]
    have HX_4 := hJ (show Below w.heap.size w v4 by rw [← hV]; exact below_box4 HX_3.out (by rw [HH.out]; omega) _ _ _ _)
    have num_4 := hJ (show PI v4 s11 A11 n11 c11 N by rw [← hV]; exact PIo.box4 (num_3.out) (HP_z_3.out) rfl rfl rfl rfl (.bool t7) (.slice T7 m7 d7) (.bool t8) (.slice T8 m8 d8))
    have den_4 := hJ (show PI v4 s10 A10 n10 c10 D by rw [← hV]; exact PIo.box4 (den_3.out) (HP_z_3.out) rfl rfl rfl rfl (.bool t7) (.slice T7 m7 d7) (.bool t8) (.slice T8 m8 d8))
    have sh_4 := hJ (show PI v4 s14 A14 n14 c14 H by rw [← hV]; exact PIo.box4 (sh_3.out) (HP_z_3.out) rfl rfl rfl rfl (.bool t7) (.slice T7 m7 d7) (.bool t8) (.slice T8 m8 d8))
    have R5_4 := hJ (show PI v4 t5 T5 m5 d5 (N / H) by rw [← hV]; exact PIo.box4 (R5_3.out) (HP_z_3.out) rfl rfl rfl rfl (.bool t7) (.slice T7 m7 d7) (.bool t8) (.slice T8 m8 d8))
    have R6_4 := hJ (show PI v4 t6 T6 m6 d6 (D / H) by rw [← hV]; exact PIo.box4 (R6_3.out) (HP_z_3.out) rfl rfl rfl rfl (.bool t7) (.slice T7 m7 d7) (.bool t8) (.slice T8 m8 d8))
    have R7_4 := hJ (show PF v4 t7 T7 m7 d7 t8 T8 m8 d8 (N / H) (D / H) by rw [← hV]; exact PF.box4 (R7_3.out) (HP_z_3.out) (.bool t7) (.slice T7 m7 d7) (.bool t8) (.slice T8 m8 d8))
    have HP_num_4 := hJ (show P2 33 v4 gN (.bool s11) (.slice A11 n11 c11) by rw [← hV]; exact HP_num_3.out.far4 (show gN ≠ (h + 1 + 1) from HGN.out.1) (.bool t7) (.slice T7 m7 d7) (.bool t8) (.slice T8 m8 d8))
    have HP_den_4 := hJ (show P2 33 v4 gD (.bool s10) (.slice A10 n10 c10) by rw [← hV]; exact HP_den_3.out.far4 (show gD ≠ (h + 1 + 1) from HGN.out.2.1) (.bool t7) (.slice T7 m7 d7) (.bool t8) (.slice T8 m8 d8))
    have HP_sh_4 := hJ (show P2 33 v4 gS (.bool s14) (.slice A14 n14 c14) by rw [← hV]; exact HP_sh_3.out.far4 (show gS ≠ (h + 1 + 1) from HGN.out.2.2) (.bool t7) (.slice T7 m7 d7) (.bool t8) (.slice T8 m8 d8))
    have HP_z_4 := hJ (show P4 35 v4 (h + 1 + 1) (.bool t7) (.slice T7 m7 d7) (.bool t8) (.slice T8 m8 d8) by rw [← hV]; exact HP_z_3.out.all (.bool t7) (.slice T7 m7 d7) (.bool t8) (.slice T8 m8 d8))
    clear hHeld
    refine hK.out _ _ (⟨HP_num_4.out.cells.1, HP_num_4.out.cells.2, HP_den_4.out.cells.1, HP_den_4.out.cells.2, HP_sh_4.out.cells.1, HP_sh_4.out.cells.2, HX_4.out⟩) (fun hHeld => ?_)
    clear hK K hV z9 z0 z1 z2 z3 y0 y1 y2 y3 HX_3 num_3 den_3 sh_3 R5_3 R6_3 R7_3 HP_num_3 HP_den_3 HP_sh_3 HP_z_3
    try simp only [PT]
    refine tq 8 ?_
    try simp only [PT]
    refine wpAnyH_done (by kernel_rfl) ?_ _
    clear hHeld
    go_wp2
    exact bodyPost_ret (results_cell1 rfl _ _ _ _ _ _ _ rfl (HP_z_4.out) Tryz.underlying35 rfl F_size) rfl (by rw [HRES.out.1, HRES.out.2.1, HRES.out.2.2]; exact ⟨t7, T7, m7, d7, t8, T8, m8, d8, rfl, R7_4.out, HX_4.out⟩)
   ·have HNO := hJ (HCC.out.2 hu)
    have hub : (u == 0) = false := by simp [hu]
    have hue : u = 4 := HNO.out.2.2.2
    subst hue
    clear hu HCC hub
    obtain ⟨z0, z1, z2, z3⟩ := HQz_12.out.cells
    have f0 := HQz_12.out.frozen 0
    have f1 := HQz_12.out.frozen 1
    have f2 := HQz_12.out.frozen 2
    have f3 := HQz_12.out.frozen 3
    go_wp2
    exact bodyPost_ret (results_cell1 rfl _ _ _ _ _ _ _ rfl (HQz_12.out.all (.bool false) (.slice none 0 0) (.bool false) (.slice none 0 0)) Tryz.underlying35 rfl F_size) rfl (by rw [HNO.out.1, HNO.out.2.1, HNO.out.2.2.1]; exact RetFE.stored (p := 0) (q := 1) ⟨PI.zero _, PI.zero _⟩ HQz_12.out HW_12.out (by rw [HH.out]; omega) _ _ _ _)

end Go.Proofs.YtbhnaffbgggabaaGreat
