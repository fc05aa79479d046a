/- Contracts of the program's fractions: Of, Sub, Div. Conditions: as each statement has them. -/
import Derived.Test.YtbhnaffbgggabaaGreatFH
import Derived.Deep.DeepCutAuto
namespace Go.Proofs.YtbhnaffbgggabaaGreat
open Go.RowKit
attribute [local go_sem ↓] Go.wp_at_zero Go.wp_at_succ
theorem i64_lim {x : Int} (h : (Lit.int .i64 x).wf = true) : x.natAbs < lim := by
 obtain ⟨h1, h2⟩ : -9223372036854775808 ≤ x ∧ x ≤ 9223372036854775807 := by simpa [Lit.wf, IntKind.min, IntKind.max, IntKind.signed, IntKind.bits] using h
 exact B2.lim (k := 64) (by have : B2 64 = 18446744073709551616 := rfl; omega) (by decide)
theorem mkQ_pos {p q : Int} : 0 < mkQ p q := by
 unfold mkQ
 split
 ·decide
 ·rename_i h
  have h1 := Nat.gcd_pos_of_pos_right p.natAbs (show 0 < q.natAbs by omega)
  have hd := Nat.gcd_dvd_right p.natAbs q.natAbs
  unfold mkD
  obtain ⟨k, hk⟩ := hd
  generalize Nat.gcd p.natAbs q.natAbs = G at *
  have hk0 : 0 < k := by
   rcases Nat.eq_zero_or_pos k with e | e
   ·subst e; omega
   ·exact e
  split
  ·have e : q = -(G : Int) * (k : Int) := by
    have h3 : q = -(q.natAbs : Int) := by omega
    rw [h3, hk, Int.natCast_mul, Int.neg_mul]
   rw [e, Int.mul_ediv_cancel_left _ (by omega)]
   omega
  ·have e : q = (G : Int) * (k : Int) := by
    have h3 : q = (q.natAbs : Int) := by omega
    rw [h3, hk, Int.natCast_mul]
   rw [e, Int.mul_ediv_cancel_left _ (by omega)]
   omega
theorem one_lim : (1 : Int).natAbs < lim := by
 rw [lim_two]
 exact Nat.one_lt_two_pow (by decide)
theorem mkPQ_lim {p q : Int} (hp : p.natAbs < lim) (hq : q.natAbs < lim) : (mkP p q).natAbs < lim ∧ (mkQ p q).natAbs < lim := by
 by_cases h : q = 0
 ·subst h
  exact ⟨by rw [(mk_zero p).1]; have := one_lim; simp at this ⊢; omega, by rw [(mk_zero p).2.1]; exact one_lim⟩
 ·exact mk_lim h hp hq
set_option maxRecDepth 100000 in
set_option maxHeartbeats 6400000 in
theorem fof_any (p q : Int) (w : World) (hp : (Lit.int .i64 p).wf = true) (hq : (Lit.int .i64 q).wf = true) :
  Calls Tryz.prog 26 #[.int .i64 p, .int .i64 q] w (RetFE (mkP p q) (mkQ p q) (mkC q) w) := by
 have HP := hJ hp
 have HQ := hJ hq
 clear hp hq
 obtain ⟨W, hW⟩ : ∃ W, w.alloc (.cells #[.bool false, .slice none 0 0, .bool false, .slice none 0 0] 35) = W := ⟨_, rfl⟩
 have HK := hJ (show Below w.heap.size w W by rw [← hW]; exact (Below.refl _ w).alloc (Nat.le_refl _) _)
 have HZ := hJ (show P4 35 W w.heap.size (.bool false) (.slice none 0 0) (.bool false) (.slice none 0 0) by rw [← hW]; exact P4.lit _ _ _ _ _ _)
 go_enter Tryz.func26, Tryz.ntmps26
 go_wp2_with fail
 refine (from_any p W HP.out).mono ?_
 rintro e w1 ⟨s1, A1, n1, c1, rfl, hr1, hb1⟩
 have HR1 := hJ hr1
 have HB1 := hJ (bt HK.out hb1)
 have HZ1 := hJ (HZ.out.new hb1)
 clear hr1 hb1
 go_wp2_with fail
 refine (from_any q w1 HQ.out).mono ?_
 rintro e w2 ⟨s2, A2, n2, c2, rfl, hr2, hb2⟩
 have HR2 := hJ hr2
 have HR12 := hJ (PIo.new HR1.out hb2)
 have HB2 := hJ (bt HB1.out hb2)
 have HZ2 := hJ (HZ1.out.new hb2)
 clear hr2 hb2
 go_wp2_with fail
 refine (fmake_any p q s1 s2 A1 A2 n1 c1 n2 c2 w2 HR12.out HR2.out (i64_lim HP.out) (i64_lim HQ.out)).mono ?_
 rintro e w3 ⟨s3, A3, n3, c3, s4, A4, n4, c4, rfl, hr3, hb3⟩
 have HR3 := hJ hr3
 have HB3 := hJ (bt HB2.out hb3)
 have HZ3 := hJ (HZ2.out.new hb3)
 clear hr3 hb3
 obtain ⟨z0, z1, z2, z3⟩ := HZ3.out.cells
 have f0 := HZ3.out.frozen 0
 have f1 := HZ3.out.frozen 1
 have f2 := HZ3.out.frozen 2
 have f3 := HZ3.out.frozen 3
 go_wp2
 exact bodyPost_ret (results_cell1 rfl _ _ _ _ _ _ _ rfl (HZ3.out.all (.bool s3) (.slice A3 n3 c3) (.bool s4) (.slice A4 n4 c4)) Tryz.underlying35 rfl F_size) rfl (RetFE.stored HR3.out HZ3.out HB3.out (Nat.le_refl _) _ _ _ _)
set_option maxRecDepth 100000 in
set_option maxHeartbeats 6400000 in
theorem fsub_any (p q r s : Int) (sa sb sd se : Bool) (Aa Ab Ad Ae : Option Addr) (na ca nb cb nd cd ne ce : Nat) (w : World) (hx : PF w sa Aa na ca sb Ab nb cb p q) (hy : PF w sd Ad nd cd se Ae ne ce r s) (hq : 0 < q) (hs : 0 < s) (hlp : p.natAbs < lim) (hlq : q.natAbs < lim) (hlr : r.natAbs < lim) (hls : s.natAbs < lim) :
  Calls Tryz.prog 35 #[.agg #[.bool sa, .slice Aa na ca, .bool sb, .slice Ab nb cb], .agg #[.bool sd, .slice Ad nd cd, .bool se, .slice Ae ne ce]] w (RetFE (adP p q (-r) s) (adQ p q (-r) s) (adC p q (-r) s) w) := by
 have HL0 := hJ (And.intro hq (And.intro hs (And.intro hlp (And.intro hlq (And.intro hlr hls)))))
 obtain ⟨W, hW⟩ : ∃ W, ((w.alloc (.cells #[.bool sa, .slice Aa na ca, .bool sb, .slice Ab nb cb] 35)).alloc (.cells #[.bool sd, .slice Ad nd cd, .bool se, .slice Ae ne ce] 35)).alloc (.cells #[.bool false, .slice none 0 0, .bool false, .slice none 0 0] 35) = W := ⟨_, rfl⟩
 have HK := hJ (show Below w.heap.size w W by rw [← hW]; exact W444_k _ _ _ _ _ _ _ _ _ _ _ _ _ _)
 have HPa := hJ (show P4 35 W w.heap.size (.bool sa) (.slice Aa na ca) (.bool sb) (.slice Ab nb cb) by rw [← hW]; exact W444_a _ _ _ _ _ _ _ _ _ _ _ _ _ _)
 have HPb := hJ (show P4 35 W (w.heap.size + 1) (.bool sd) (.slice Ad nd cd) (.bool se) (.slice Ae ne ce) by rw [← hW]; exact W444_b _ _ _ _ _ _ _ _ _ _ _ _ _ _)
 have HPz := hJ (show P4 35 W (w.heap.size + 1 + 1) (.bool false) (.slice none 0 0) (.bool false) (.slice none 0 0) by rw [← hW]; exact W444_z _ _ _ _ _ _ _ _ _ _ _ _ _ _)
 have HRa := hJ (hx.new HK.out)
 have HRb := hJ (hy.new HK.out)
 have HRz := hJ (show PF W false none 0 0 false none 0 0 0 1 from ⟨PI.zero W, PI.zero W⟩)
 have hna : na ≤ 512 := plim hx.1 hlp
 have hnb : nb ≤ 512 := plim hx.2 (dn_lim hlq)
 have hnd : nd ≤ 512 := plim hy.1 hlr
 have hne : ne ≤ 512 := plim hy.2 (dn_lim hls)
 obtain ⟨h, hh⟩ : ∃ h, w.heap.size = h := ⟨_, rfl⟩
 have HH := hJ hh
 rw [hh] at HPa HPb HPz
 clear hx hy hq hs hlp hlq hlr hls
 go_enter Tryz.func35, Tryz.ntmps35
 go_upto_region 1 with fail
 clear hW hh
 obtain ⟨P, hP⟩ : ∃ x, adP p q (-r) s = x := ⟨_, rfl⟩
 obtain ⟨Q, hQ⟩ : ∃ x, adQ p q (-r) s = x := ⟨_, rfl⟩
 obtain ⟨C, hC⟩ : ∃ x, adC p q (-r) s = x := ⟨_, rfl⟩
 have HRES := hJ (And.intro hP (And.intro hQ hC))
 have HNL := hJ (show (-r).natAbs < lim by rw [Int.natAbs_neg]; exact HL0.out.2.2.2.2.1)
 clear hP hQ hC
 obtain ⟨v0, hv0⟩ := nmz (World.drew W)
 have HD0 := hJ (show Below W.heap.size W v0 by rw [← hv0]; exact (Below.refl _ _).drew)
 have HX_0 := hJ (bt HK.out HD0.out)
 have a_0 := hJ ((HRa.out).new HD0.out)
 have b_0 := hJ ((HRb.out).new HD0.out)
 have HP_a_0 := hJ (HPa.out.new HD0.out)
 have HP_b_0 := hJ (HPb.out.new HD0.out)
 have HP_z_0 := hJ (HPz.out.new HD0.out)
 refine wp_region_held_drew (S := (fun w' : World => w'.cell? ⟨h, 0, none⟩ = some (.bool sa) ∧ w'.cell? ⟨h, 1, none⟩ = some (.slice Aa na ca) ∧ w'.cell? ⟨h, 2, none⟩ = some (.bool sb) ∧ w'.cell? ⟨h, 3, none⟩ = some (.slice Ab nb cb) ∧ w'.cell? ⟨(h + 1), 0, none⟩ = some (.bool sd) ∧ w'.cell? ⟨(h + 1), 1, none⟩ = some (.slice Ad nd cd) ∧ w'.cell? ⟨(h + 1), 2, none⟩ = some (.bool se) ∧ w'.cell? ⟨(h + 1), 3, none⟩ = some (.slice Ae ne ce) ∧ Below w.heap.size w w')) (by kernel_rfl) ?_ (fun hHeld => ?_)
 ·rw [hv0]
  exact ⟨HP_a_0.out.cells.1, HP_a_0.out.cells.2.1, HP_a_0.out.cells.2.2.1, HP_a_0.out.cells.2.2.2, HP_b_0.out.cells.1, HP_b_0.out.cells.2.1, HP_b_0.out.cells.2.2.1, HP_b_0.out.cells.2.2.2, HX_0.out⟩
 rw [hv0] at hHeld ⊢
 clear hv0 HD0
 refine tq 0 ?_
 try simp only [PT]
 refine tq 1 ?_
 try simp only [PT]
 refine tq 2 ?_
 try simp only [PT]
 refine tq 4 ?_
 try simp only [PT]
 refine tq 5 ?_
 try simp only [PT]
 refine wpAnyH_ready (rs := [3]) (by kernel_rfl) (by simp) ?_
 refine .cons rfl (fun K hK => ?_) .nil
 go_simp
 go_at_call 100
 refine (pneg_any r sd Ad nd cd v0 (b_0.out.1) (by omega)).mono ?_
 rintro e v1 ⟨t1, T1, m1, d1, rfl, hr, hk⟩
 have N_1 := hJ (hr)
 have HB_1 := hJ hk
 go_wp2_with fail
 have HX_1 := hJ (bt HX_0.out HB_1.out)
 have a_1 := hJ ((a_0.out).new HB_1.out)
 have b_1 := hJ ((b_0.out).new HB_1.out)
 have HP_a_1 := hJ (HP_a_0.out.new HB_1.out)
 have HP_b_1 := hJ (HP_b_0.out.new HB_1.out)
 have HP_z_1 := hJ (HP_z_0.out.new HB_1.out)
 clear hHeld
 refine hK.out _ _ (⟨HP_a_1.out.cells.1, HP_a_1.out.cells.2.1, HP_a_1.out.cells.2.2.1, HP_a_1.out.cells.2.2.2, HP_b_1.out.cells.1, HP_b_1.out.cells.2.1, HP_b_1.out.cells.2.2.1, HP_b_1.out.cells.2.2.2, HX_1.out⟩) (fun hHeld => ?_)
 clear hK K hk HB_1 hr HX_0 a_0 b_0 HP_a_0 HP_b_0 HP_z_0
 try simp only [PT]
 refine tq 6 ?_
 try simp only [PT]
 refine wpAnyH_ready (rs := [7]) (by kernel_rfl) (by simp) ?_
 refine .cons rfl (fun K hK => ?_) .nil
 go_simp
 go_at_call 33
 refine (fadd_any p q (-r) s sa sb t1 se Aa Ab T1 Ae na ca nb cb m1 d1 ne ce v1 (a_1.out) ⟨N_1.out, b_1.out.2⟩ HL0.out.1 HL0.out.2.1 HL0.out.2.2.1 HL0.out.2.2.2.1 HNL.out HL0.out.2.2.2.2.2).mono ?_
 rw [HRES.out.1, HRES.out.2.1, HRES.out.2.2]
 rintro e v2 ⟨t3, T3, m3, d3, t4, T4, m4, d4, rfl, hr, hk⟩
 have R_2 := hJ (hr)
 have HB_2 := hJ hk
 go_wp2_with fail
 have HX_2 := hJ (bt HX_1.out HB_2.out)
 have a_2 := hJ ((a_1.out).new HB_2.out)
 have b_2 := hJ ((b_1.out).new HB_2.out)
 have N_2 := hJ (PIo.new N_1.out HB_2.out)
 have HP_a_2 := hJ (HP_a_1.out.new HB_2.out)
 have HP_b_2 := hJ (HP_b_1.out.new HB_2.out)
 have HP_z_2 := hJ (HP_z_1.out.new HB_2.out)
 clear hHeld
 refine hK.out _ _ (⟨HP_a_2.out.cells.1, HP_a_2.out.cells.2.1, HP_a_2.out.cells.2.2.1, HP_a_2.out.cells.2.2.2, HP_b_2.out.cells.1, HP_b_2.out.cells.2.1, HP_b_2.out.cells.2.2.1, HP_b_2.out.cells.2.2.2, HX_2.out⟩) (fun hHeld => ?_)
 clear hK K hk HB_2 hr HX_1 a_1 b_1 N_1 HP_a_1 HP_b_1 HP_z_1
 try simp only [PT]
 refine tq 8 ?_
 try simp only [PT]
 refine tq 9 ?_
 try simp only [PT]
 refine wpAnyH_ready (rs := [10]) (by kernel_rfl) (by simp) ?_
 refine .cons rfl (fun K hK => ?_) .nil
 obtain ⟨z0, z1, z2, z3⟩ := HP_z_2.out.cells
 have y0 := HP_z_2.out.frozen 0
 have y1 := HP_z_2.out.frozen 1
 have y2 := HP_z_2.out.frozen 2
 have y3 := HP_z_2.out.frozen 3
 have z9 := HP_z_2.out.lt
 go_simp
 obtain ⟨v3, hV⟩ := nmz (World.setCell (World.setCell (World.setCell (World.setCell v2 ⟨(h + 1 + 1), 0, none⟩ (.bool t3)) ⟨(h + 1 + 1), 1, none⟩ (.slice T3 m3 d3)) ⟨(h + 1 + 1), 2, none⟩ (.bool t4)) ⟨(h + 1 + 1), 3, none⟩ (.slice T4 m4 d4))
 rw [hV]
 have HX_3 := hJ (show Below w.heap.size w v3 by rw [← hV]; exact below_box4 HX_2.out (by rw [HH.out]; omega) _ _ _ _)
 have a_3 := hJ (show PF v3 sa Aa na ca sb Ab nb cb p q by rw [← hV]; exact PF.box4 (a_2.out) (HP_z_2.out) (.bool t3) (.slice T3 m3 d3) (.bool t4) (.slice T4 m4 d4))
 have b_3 := hJ (show PF v3 sd Ad nd cd se Ae ne ce r s by rw [← hV]; exact PF.box4 (b_2.out) (HP_z_2.out) (.bool t3) (.slice T3 m3 d3) (.bool t4) (.slice T4 m4 d4))
 have N_3 := hJ (show PI v3 t1 T1 m1 d1 (-r) by rw [← hV]; exact PIo.box4 (N_2.out) (HP_z_2.out) rfl rfl rfl rfl (.bool t3) (.slice T3 m3 d3) (.bool t4) (.slice T4 m4 d4))
 have R_3 := hJ (show PF v3 t3 T3 m3 d3 t4 T4 m4 d4 P Q by rw [← hV]; exact PF.box4 (R_2.out) (HP_z_2.out) (.bool t3) (.slice T3 m3 d3) (.bool t4) (.slice T4 m4 d4))
 have HP_a_3 := hJ (show P4 35 v3 h (.bool sa) (.slice Aa na ca) (.bool sb) (.slice Ab nb cb) by rw [← hV]; exact HP_a_2.out.far4 (show h ≠ (h + 1 + 1) from (by omega)) (.bool t3) (.slice T3 m3 d3) (.bool t4) (.slice T4 m4 d4))
 have HP_b_3 := hJ (show P4 35 v3 (h + 1) (.bool sd) (.slice Ad nd cd) (.bool se) (.slice Ae ne ce) by rw [← hV]; exact HP_b_2.out.far4 (show (h + 1) ≠ (h + 1 + 1) from (by omega)) (.bool t3) (.slice T3 m3 d3) (.bool t4) (.slice T4 m4 d4))
 have HP_z_3 := hJ (show P4 35 v3 (h + 1 + 1) (.bool t3) (.slice T3 m3 d3) (.bool t4) (.slice T4 m4 d4) by rw [← hV]; exact HP_z_2.out.all (.bool t3) (.slice T3 m3 d3) (.bool t4) (.slice T4 m4 d4))
 clear hHeld
 refine hK.out _ _ (⟨HP_a_3.out.cells.1, HP_a_3.out.cells.2.1, HP_a_3.out.cells.2.2.1, HP_a_3.out.cells.2.2.2, HP_b_3.out.cells.1, HP_b_3.out.cells.2.1, HP_b_3.out.cells.2.2.1, HP_b_3.out.cells.2.2.2, HX_3.out⟩) (fun hHeld => ?_)
 clear hK K hV z9 z0 z1 z2 z3 y0 y1 y2 y3 HX_2 a_2 b_2 N_2 R_2 HP_a_2 HP_b_2 HP_z_2
 try simp only [PT]
 refine tq 11 ?_
 try simp only [PT]
 refine wpAnyH_done (by kernel_rfl) ?_ _
 clear hHeld
 go_wp2
 exact bodyPost_ret (results_cell1 rfl _ _ _ _ _ _ _ rfl (HP_z_3.out) Tryz.underlying35 rfl F_size) rfl (by rw [HRES.out.1, HRES.out.2.1, HRES.out.2.2]; exact ⟨t3, T3, m3, d3, t4, T4, m4, d4, rfl, R_3.out, HX_3.out⟩)
def dvP (p q r s : Int) : Int := if r = 0 then 0 else muP p q (mkP s r) (mkQ s r)
def dvQ (p q r s : Int) : Int := if r = 0 then 1 else muQ p q (mkP s r) (mkQ s r)
def dvC (p q r s : Int) : Int := if r = 0 then 1 else muC p q (mkP s r) (mkQ s r)
set_option maxRecDepth 100000 in
set_option maxHeartbeats 6400000 in
theorem fdiv_any (p q r s : Int) (sa sb sd se : Bool) (Aa Ab Ad Ae : Option Addr) (na ca nb cb nd cd ne ce : Nat) (w : World) (hx : PF w sa Aa na ca sb Ab nb cb p q) (hy : PF w sd Ad nd cd se Ae ne ce r s) (hq : 0 < q) (hs : 0 < s) (hlp : p.natAbs < lim) (hlq : q.natAbs < lim) (hlr : r.natAbs < lim) (hls : s.natAbs < lim) :
  Calls Tryz.prog 39 #[.agg #[.bool sa, .slice Aa na ca, .bool sb, .slice Ab nb cb], .agg #[.bool sd, .slice Ad nd cd, .bool se, .slice Ae ne ce]] w (RetFE (dvP p q r s) (dvQ p q r s) (dvC p q r s) w) := by
 have HL0 := hJ (And.intro hq (And.intro hs (And.intro hlp (And.intro hlq (And.intro hlr hls)))))
 obtain ⟨W, hW⟩ : ∃ W, ((w.alloc (.cells #[.bool sa, .slice Aa na ca, .bool sb, .slice Ab nb cb] 35)).alloc (.cells #[.bool sd, .slice Ad nd cd, .bool se, .slice Ae ne ce] 35)).alloc (.cells #[.bool false, .slice none 0 0, .bool false, .slice none 0 0] 35) = W := ⟨_, rfl⟩
 have HK := hJ (show Below w.heap.size w W by rw [← hW]; exact W444_k _ _ _ _ _ _ _ _ _ _ _ _ _ _)
 have HPa := hJ (show P4 35 W w.heap.size (.bool sa) (.slice Aa na ca) (.bool sb) (.slice Ab nb cb) by rw [← hW]; exact W444_a _ _ _ _ _ _ _ _ _ _ _ _ _ _)
 have HPb := hJ (show P4 35 W (w.heap.size + 1) (.bool sd) (.slice Ad nd cd) (.bool se) (.slice Ae ne ce) by rw [← hW]; exact W444_b _ _ _ _ _ _ _ _ _ _ _ _ _ _)
 have HPz := hJ (show P4 35 W (w.heap.size + 1 + 1) (.bool false) (.slice none 0 0) (.bool false) (.slice none 0 0) by rw [← hW]; exact W444_z _ _ _ _ _ _ _ _ _ _ _ _ _ _)
 have HRa := hJ (hx.new HK.out)
 have HRb := hJ (hy.new HK.out)
 have HRz := hJ (show PF W false none 0 0 false none 0 0 0 1 from ⟨PI.zero W, PI.zero W⟩)
 have hna : na ≤ 512 := plim hx.1 hlp
 have hnb : nb ≤ 512 := plim hx.2 (dn_lim hlq)
 have hnd : nd ≤ 512 := plim hy.1 hlr
 have hne : ne ≤ 512 := plim hy.2 (dn_lim hls)
 obtain ⟨h, hh⟩ : ∃ h, w.heap.size = h := ⟨_, rfl⟩
 have HH := hJ hh
 rw [hh] at HPa HPb HPz
 clear hx hy hq hs hlp hlq hlr hls
 go_enter Tryz.func39, Tryz.ntmps39
 have HS : Hid (∀ w', Below W.heap.size W w' → (fun w' : World => w'.cell? ⟨(h + 1), 0, none⟩ = some (.bool sd) ∧ w'.cell? ⟨(h + 1), 1, none⟩ = some (.slice Ad nd cd) ∧ w'.cell? ⟨(h + 1), 2, none⟩ = some (.bool se) ∧ w'.cell? ⟨(h + 1), 3, none⟩ = some (.slice Ae ne ce) ∧ Below W.heap.size W w') w') := hJ (fun w' hb => ⟨(HPb.out.new hb).cells.1, (HPb.out.new hb).cells.2.1, (HPb.out.new hb).cells.2.2.1, (HPb.out.new hb).cells.2.2.2, hb⟩)
 have HXX := hJ (Below.refl W.heap.size W)
 obtain ⟨P, hP⟩ : ∃ x, mkP s r = x := ⟨_, rfl⟩
 obtain ⟨Q, hQ⟩ : ∃ x, mkQ s r = x := ⟨_, rfl⟩
 obtain ⟨C, hC⟩ : ∃ x, mkC r = x := ⟨_, rfl⟩
 have HRES := hJ (And.intro hP (And.intro hQ hC))
 clear hP hQ hC
 go_upto_region 1 with fail
 clear hW hh
 go_cut [6, 7] (fun tp tq wx => ∃ (G : Nat) (s1 : Bool) (A1 : Option Addr) (n1 c1 : Nat) (s2 : Bool) (A2 : Option Addr) (n2 c2 : Nat), tp = .pointer (some ⟨G, 0, none⟩) ∧ tq = .int .i64 C ∧ P4 35 wx G (.bool s1) (.slice A1 n1 c1) (.bool s2) (.slice A2 n2 c2) ∧ PF wx s1 A1 n1 c1 s2 A2 n2 c2 P Q ∧ Below W.heap.size W wx)
 case first =>
  obtain ⟨v0, hv0⟩ := nmz (World.drew W)
  have HD0 := hJ (show Below W.heap.size W v0 by rw [← hv0]; exact (Below.refl _ _).drew)
  have HX_0 := hJ (bt HXX.out HD0.out)
  have b_0 := hJ ((HRb.out).new HD0.out)
  refine wp_region_held_drew (S := (fun w' : World => w'.cell? ⟨(h + 1), 0, none⟩ = some (.bool sd) ∧ w'.cell? ⟨(h + 1), 1, none⟩ = some (.slice Ad nd cd) ∧ w'.cell? ⟨(h + 1), 2, none⟩ = some (.bool se) ∧ w'.cell? ⟨(h + 1), 3, none⟩ = some (.slice Ae ne ce) ∧ Below W.heap.size W w')) (by kernel_rfl) ?_ (fun hHeld => ?_)
  ·rw [hv0]
   exact HS.out _ HX_0.out
  rw [hv0] at hHeld ⊢
  clear hv0 HD0
  refine tq 0 ?_
  try simp only [PT]
  refine tq 2 ?_
  try simp only [PT]
  refine tq 3 ?_
  try simp only [PT]
  refine wpAnyH_ready (rs := [1, 8]) (by kernel_rfl) (by simp) ?_
  refine .cons rfl (fun K hK => ?_) ?_
  go_simp
  go_at_call 51
  refine (den_any r s sd se Ad Ae nd cd ne ce v0 (b_0.out) (by omega) HL0.out.2.1).mono ?_
  rintro e v1 ⟨t1, T1, m1, d1, rfl, hr, hk⟩
  have N_1 := hJ (hr)
  have HB_1 := hJ hk
  go_wp2_with fail
  have HX_1 := hJ (bt HX_0.out HB_1.out)
  have b_1 := hJ ((b_0.out).new HB_1.out)
  clear hHeld
  refine hK.out _ _ (HS.out _ HX_1.out) (fun hHeld => ?_)
  clear hK K hk HB_1 hr HX_0 b_0
  try simp only [PT]
  refine wpAnyH_ready (rs := [4, 8]) (by kernel_rfl) (by simp) ?_
  refine .cons rfl (fun K hK => ?_) ?_
  go_simp
  go_at_call 22
  refine (fmake_any s r t1 sd T1 Ad m1 d1 nd cd v1 (N_1.out) (b_1.out.1) HL0.out.2.2.2.2.2 HL0.out.2.2.2.2.1).mono ?_
  rw [HRES.out.1, HRES.out.2.1, HRES.out.2.2]
  rintro e v2 ⟨t3, T3, m3, d3, t4, T4, m4, d4, rfl, hr, hk⟩
  have R_2 := hJ (hr)
  have HB_2 := hJ hk
  go_wp2_with fail
  have HX_2 := hJ (bt HX_1.out HB_2.out)
  have b_2 := hJ ((b_1.out).new HB_2.out)
  have N_2 := hJ (PIo.new N_1.out HB_2.out)
  clear hHeld
  refine hK.out _ _ (HS.out _ HX_2.out) (fun hHeld => ?_)
  clear hK K hk HB_2 hr HX_1 b_1 N_1
  try simp only [PT]
  refine tq 5 ?_
  try simp only [PT]
  refine tq 6 ?_
  try simp only [PT]
  refine tq 7 ?_
  try simp only [PT]
  refine wpAnyH_ready (rs := [8]) (by kernel_rfl) (by simp) ?_
  refine .cons rfl (fun K hK => ?_) .nil
  go_simp
  have HB_3 := hJ ((Below.refl v2.heap.size v2).alloc (Nat.le_refl _) (.cells #[.bool false, .slice none 0 0, .bool false, .slice none 0 0] 35))
  have HP_x_3 := hJ (P4.lit v2 35 (.bool false) (.slice none 0 0) (.bool false) (.slice none 0 0))
  obtain ⟨v3, hV⟩ := nmz (World.alloc v2 (.cells #[.bool false, .slice none 0 0, .bool false, .slice none 0 0] 35))
  obtain ⟨gx, hg⟩ := nmz (v2.heap.size)
  rw [hV] at HB_3 HP_x_3  ⊢
  rw [hg] at HP_x_3  ⊢
  have HG_x := hJ (show W.heap.size ≤ gx by rw [← hg]; exact HX_2.out.size)
  have HX_3 := hJ (bt HX_2.out HB_3.out)
  have b_3 := hJ ((b_2.out).new HB_3.out)
  have N_3 := hJ (PIo.new N_2.out HB_3.out)
  have R_3 := hJ (PF.new R_2.out HB_3.out)
  clear hHeld
  refine hK.out _ _ (HS.out _ HX_3.out) (fun hHeld => ?_)
  clear hK K hV hg HB_3 HX_2 b_2 N_2 R_2
  try simp only [PT]
  refine wpAnyH_ready (rs := [9]) (by kernel_rfl) (by simp) ?_
  refine .cons rfl (fun K hK => ?_) .nil
  obtain ⟨z0, z1, z2, z3⟩ := HP_x_3.out.cells
  have y0 := HP_x_3.out.frozen 0
  have y1 := HP_x_3.out.frozen 1
  have y2 := HP_x_3.out.frozen 2
  have y3 := HP_x_3.out.frozen 3
  have z9 := HP_x_3.out.lt
  go_simp
  obtain ⟨v4, hV⟩ := nmz (World.setCell (World.setCell (World.setCell (World.setCell v3 ⟨gx, 0, none⟩ (.bool t3)) ⟨gx, 1, none⟩ (.slice T3 m3 d3)) ⟨gx, 2, none⟩ (.bool t4)) ⟨gx, 3, none⟩ (.slice T4 m4 d4))
  rw [hV]
  have HX_4 := hJ (show Below W.heap.size W v4 by rw [← hV]; exact below_box4 HX_3.out (HG_x.out) _ _ _ _)
  have b_4 := hJ (show PF v4 sd Ad nd cd se Ae ne ce r s by rw [← hV]; exact PF.box4 (b_3.out) (HP_x_3.out) (.bool t3) (.slice T3 m3 d3) (.bool t4) (.slice T4 m4 d4))
  have N_4 := hJ (show PI v4 t1 T1 m1 d1 s by rw [← hV]; exact PIo.box4 (N_3.out) (HP_x_3.out) rfl rfl rfl rfl (.bool t3) (.slice T3 m3 d3) (.bool t4) (.slice T4 m4 d4))
  have R_4 := hJ (show PF v4 t3 T3 m3 d3 t4 T4 m4 d4 P Q by rw [← hV]; exact PF.box4 (R_3.out) (HP_x_3.out) (.bool t3) (.slice T3 m3 d3) (.bool t4) (.slice T4 m4 d4))
  have HP_x_4 := hJ (show P4 35 v4 gx (.bool t3) (.slice T3 m3 d3) (.bool t4) (.slice T4 m4 d4) by rw [← hV]; exact HP_x_3.out.all (.bool t3) (.slice T3 m3 d3) (.bool t4) (.slice T4 m4 d4))
  clear hHeld
  refine hK.out _ _ (HS.out _ HX_4.out) (fun hHeld => ?_)
  clear hK K hV z9 z0 z1 z2 z3 y0 y1 y2 y3 HX_3 b_3 N_3 R_3 HP_x_3
  try simp only [PT]
  refine tq 10 ?_
  try simp only [PT]
  refine wpAnyH_done (by kernel_rfl) ?_ _
  clear hHeld
  go_wp2_with fail
  go_meet
  exact ⟨gx, t3, T3, m3, d3, t4, T4, m4, d4, rfl, rfl, HP_x_4.out, R_4.out, HX_4.out⟩
  refine .cons rfl (fun K hK => ?_) .nil
  go_simp
  have HB_5 := hJ ((Below.refl v1.heap.size v1).alloc (Nat.le_refl _) (.cells #[.bool false, .slice none 0 0, .bool false, .slice none 0 0] 35))
  have HP_x_5 := hJ (P4.lit v1 35 (.bool false) (.slice none 0 0) (.bool false) (.slice none 0 0))
  obtain ⟨v5, hV⟩ := nmz (World.alloc v1 (.cells #[.bool false, .slice none 0 0, .bool false, .slice none 0 0] 35))
  obtain ⟨gx, hg⟩ := nmz (v1.heap.size)
  rw [hV] at HB_5 HP_x_5  ⊢
  rw [hg] at HP_x_5  ⊢
  have HG_x := hJ (show W.heap.size ≤ gx by rw [← hg]; exact HX_1.out.size)
  have HX_5 := hJ (bt HX_1.out HB_5.out)
  have b_5 := hJ ((b_1.out).new HB_5.out)
  have N_5 := hJ (PIo.new N_1.out HB_5.out)
  clear hHeld
  refine hK.out _ _ (HS.out _ HX_5.out) (fun hHeld => ?_)
  clear hK K hV hg HB_5 HX_1 b_1 N_1
  try simp only [PT]
  refine wpAnyH_ready (rs := [4]) (by kernel_rfl) (by simp) ?_
  refine .cons rfl (fun K hK => ?_) .nil
  go_simp
  go_at_call 22
  refine (fmake_any s r t1 sd T1 Ad m1 d1 nd cd v5 (N_5.out) (b_5.out.1) HL0.out.2.2.2.2.2 HL0.out.2.2.2.2.1).mono ?_
  rw [HRES.out.1, HRES.out.2.1, HRES.out.2.2]
  rintro e v6 ⟨t3, T3, m3, d3, t4, T4, m4, d4, rfl, hr, hk⟩
  have R_6 := hJ (hr)
  have HB_6 := hJ hk
  go_wp2_with fail
  have HX_6 := hJ (bt HX_5.out HB_6.out)
  have b_6 := hJ ((b_5.out).new HB_6.out)
  have N_6 := hJ (PIo.new N_5.out HB_6.out)
  have HP_x_6 := hJ (HP_x_5.out.new HB_6.out)
  clear hHeld
  refine hK.out _ _ (HS.out _ HX_6.out) (fun hHeld => ?_)
  clear hK K hk HB_6 hr HX_5 b_5 N_5 HP_x_5
  try simp only [PT]
  refine tq 5 ?_
  try simp only [PT]
  refine tq 6 ?_
  try simp only [PT]
  refine tq 7 ?_
  try simp only [PT]
  refine wpAnyH_ready (rs := [9]) (by kernel_rfl) (by simp) ?_
  refine .cons rfl (fun K hK => ?_) .nil
  obtain ⟨z0, z1, z2, z3⟩ := HP_x_6.out.cells
  have y0 := HP_x_6.out.frozen 0
  have y1 := HP_x_6.out.frozen 1
  have y2 := HP_x_6.out.frozen 2
  have y3 := HP_x_6.out.frozen 3
  have z9 := HP_x_6.out.lt
  go_simp
  obtain ⟨v7, hV⟩ := nmz (World.setCell (World.setCell (World.setCell (World.setCell v6 ⟨gx, 0, none⟩ (.bool t3)) ⟨gx, 1, none⟩ (.slice T3 m3 d3)) ⟨gx, 2, none⟩ (.bool t4)) ⟨gx, 3, none⟩ (.slice T4 m4 d4))
  rw [hV]
  have HX_7 := hJ (show Below W.heap.size W v7 by rw [← hV]; exact below_box4 HX_6.out (HG_x.out) _ _ _ _)
  have b_7 := hJ (show PF v7 sd Ad nd cd se Ae ne ce r s by rw [← hV]; exact PF.box4 (b_6.out) (HP_x_6.out) (.bool t3) (.slice T3 m3 d3) (.bool t4) (.slice T4 m4 d4))
  have N_7 := hJ (show PI v7 t1 T1 m1 d1 s by rw [← hV]; exact PIo.box4 (N_6.out) (HP_x_6.out) rfl rfl rfl rfl (.bool t3) (.slice T3 m3 d3) (.bool t4) (.slice T4 m4 d4))
  have R_7 := hJ (show PF v7 t3 T3 m3 d3 t4 T4 m4 d4 P Q by rw [← hV]; exact PF.box4 (R_6.out) (HP_x_6.out) (.bool t3) (.slice T3 m3 d3) (.bool t4) (.slice T4 m4 d4))
  have HP_x_7 := hJ (show P4 35 v7 gx (.bool t3) (.slice T3 m3 d3) (.bool t4) (.slice T4 m4 d4) by rw [← hV]; exact HP_x_6.out.all (.bool t3) (.slice T3 m3 d3) (.bool t4) (.slice T4 m4 d4))
  clear hHeld
  refine hK.out _ _ (HS.out _ HX_7.out) (fun hHeld => ?_)
  clear hK K hV z9 z0 z1 z2 z3 y0 y1 y2 y3 HX_6 b_6 N_6 R_6 HP_x_6
  try simp only [PT]
  refine tq 10 ?_
  try simp only [PT]
  refine wpAnyH_done (by kernel_rfl) ?_ _
  clear hHeld
  go_wp2_with fail
  go_meet
  exact ⟨gx, t3, T3, m3, d3, t4, T4, m4, d4, rfl, rfl, HP_x_7.out, R_7.out, HX_7.out⟩
  refine .cons rfl (fun K hK => ?_) .nil
  go_simp
  have HB_8 := hJ ((Below.refl v0.heap.size v0).alloc (Nat.le_refl _) (.cells #[.bool false, .slice none 0 0, .bool false, .slice none 0 0] 35))
  have HP_x_8 := hJ (P4.lit v0 35 (.bool false) (.slice none 0 0) (.bool false) (.slice none 0 0))
  obtain ⟨v8, hV⟩ := nmz (World.alloc v0 (.cells #[.bool false, .slice none 0 0, .bool false, .slice none 0 0] 35))
  obtain ⟨gx, hg⟩ := nmz (v0.heap.size)
  rw [hV] at HB_8 HP_x_8  ⊢
  rw [hg] at HP_x_8  ⊢
  have HG_x := hJ (show W.heap.size ≤ gx by rw [← hg]; exact HX_0.out.size)
  have HX_8 := hJ (bt HX_0.out HB_8.out)
  have b_8 := hJ ((b_0.out).new HB_8.out)
  clear hHeld
  refine hK.out _ _ (HS.out _ HX_8.out) (fun hHeld => ?_)
  clear hK K hV hg HB_8 HX_0 b_0
  try simp only [PT]
  refine wpAnyH_ready (rs := [1]) (by kernel_rfl) (by simp) ?_
  refine .cons rfl (fun K hK => ?_) .nil
  go_simp
  go_at_call 51
  refine (den_any r s sd se Ad Ae nd cd ne ce v8 (b_8.out) (by omega) HL0.out.2.1).mono ?_
  rintro e v9 ⟨t1, T1, m1, d1, rfl, hr, hk⟩
  have N_9 := hJ (hr)
  have HB_9 := hJ hk
  go_wp2_with fail
  have HX_9 := hJ (bt HX_8.out HB_9.out)
  have b_9 := hJ ((b_8.out).new HB_9.out)
  have HP_x_9 := hJ (HP_x_8.out.new HB_9.out)
  clear hHeld
  refine hK.out _ _ (HS.out _ HX_9.out) (fun hHeld => ?_)
  clear hK K hk HB_9 hr HX_8 b_8 HP_x_8
  try simp only [PT]
  refine wpAnyH_ready (rs := [4]) (by kernel_rfl) (by simp) ?_
  refine .cons rfl (fun K hK => ?_) .nil
  go_simp
  go_at_call 22
  refine (fmake_any s r t1 sd T1 Ad m1 d1 nd cd v9 (N_9.out) (b_9.out.1) HL0.out.2.2.2.2.2 HL0.out.2.2.2.2.1).mono ?_
  rw [HRES.out.1, HRES.out.2.1, HRES.out.2.2]
  rintro e v10 ⟨t3, T3, m3, d3, t4, T4, m4, d4, rfl, hr, hk⟩
  have R_10 := hJ (hr)
  have HB_10 := hJ hk
  go_wp2_with fail
  have HX_10 := hJ (bt HX_9.out HB_10.out)
  have b_10 := hJ ((b_9.out).new HB_10.out)
  have N_10 := hJ (PIo.new N_9.out HB_10.out)
  have HP_x_10 := hJ (HP_x_9.out.new HB_10.out)
  clear hHeld
  refine hK.out _ _ (HS.out _ HX_10.out) (fun hHeld => ?_)
  clear hK K hk HB_10 hr HX_9 b_9 N_9 HP_x_9
  try simp only [PT]
  refine tq 5 ?_
  try simp only [PT]
  refine tq 6 ?_
  try simp only [PT]
  refine tq 7 ?_
  try simp only [PT]
  refine wpAnyH_ready (rs := [9]) (by kernel_rfl) (by simp) ?_
  refine .cons rfl (fun K hK => ?_) .nil
  obtain ⟨z0, z1, z2, z3⟩ := HP_x_10.out.cells
  have y0 := HP_x_10.out.frozen 0
  have y1 := HP_x_10.out.frozen 1
  have y2 := HP_x_10.out.frozen 2
  have y3 := HP_x_10.out.frozen 3
  have z9 := HP_x_10.out.lt
  go_simp
  obtain ⟨v11, hV⟩ := nmz (World.setCell (World.setCell (World.setCell (World.setCell v10 ⟨gx, 0, none⟩ (.bool t3)) ⟨gx, 1, none⟩ (.slice T3 m3 d3)) ⟨gx, 2, none⟩ (.bool t4)) ⟨gx, 3, none⟩ (.slice T4 m4 d4))
  rw [hV]
  have HX_11 := hJ (show Below W.heap.size W v11 by rw [← hV]; exact below_box4 HX_10.out (HG_x.out) _ _ _ _)
  have b_11 := hJ (show PF v11 sd Ad nd cd se Ae ne ce r s by rw [← hV]; exact PF.box4 (b_10.out) (HP_x_10.out) (.bool t3) (.slice T3 m3 d3) (.bool t4) (.slice T4 m4 d4))
  have N_11 := hJ (show PI v11 t1 T1 m1 d1 s by rw [← hV]; exact PIo.box4 (N_10.out) (HP_x_10.out) rfl rfl rfl rfl (.bool t3) (.slice T3 m3 d3) (.bool t4) (.slice T4 m4 d4))
  have R_11 := hJ (show PF v11 t3 T3 m3 d3 t4 T4 m4 d4 P Q by rw [← hV]; exact PF.box4 (R_10.out) (HP_x_10.out) (.bool t3) (.slice T3 m3 d3) (.bool t4) (.slice T4 m4 d4))
  have HP_x_11 := hJ (show P4 35 v11 gx (.bool t3) (.slice T3 m3 d3) (.bool t4) (.slice T4 m4 d4) by rw [← hV]; exact HP_x_10.out.all (.bool t3) (.slice T3 m3 d3) (.bool t4) (.slice T4 m4 d4))
  clear hHeld
  refine hK.out _ _ (HS.out _ HX_11.out) (fun hHeld => ?_)
  clear hK K hV z9 z0 z1 z2 z3 y0 y1 y2 y3 HX_10 b_10 N_10 R_10 HP_x_10
  try simp only [PT]
  refine tq 10 ?_
  try simp only [PT]
  refine wpAnyH_done (by kernel_rfl) ?_ _
  clear hHeld
  go_wp2_with fail
  go_meet
  exact ⟨gx, t3, T3, m3, d3, t4, T4, m4, d4, rfl, rfl, HP_x_11.out, R_11.out, HX_11.out⟩
 case rest =>
  obtain ⟨G, s1, A1, n1, c1, s2, A2, n2, c2, rfl, rfl, hq1, hr1, hbx⟩ := hcut
  have HQ1 := hJ hq1
  have HR1 := hJ hr1
  have HB1 := hJ hbx
  obtain ⟨x1, rfl⟩ := nm_world hbx
  clear hq1 hr1 hbx HS HXX
  have HQa_2 := hJ (HPa.out.new HB1.out)
  have HRa_2 := hJ (HRa.out.new HB1.out)
  have HQd_2 := hJ (HPb.out.new HB1.out)
  have HRd_2 := hJ (HRb.out.new HB1.out)
  have HQz_2 := hJ (HPz.out.new HB1.out)
  have HRz_2 := hJ (HRz.out.new HB1.out)
  have HW_2 := hJ (bt HK.out HB1.out)
  clear HPa HRa HPb HRb HPz HRz HK HB1
  by_cases hr0 : r = 0
  ·have HC := hJ (show C = 1 by rw [← HRES.out.2.2, hr0]; rfl)
   have HV := hJ (show dvP p q r s = 0 ∧ dvQ p q r s = 1 ∧ dvC p q r s = 1 from ⟨if_pos hr0, if_pos hr0, if_pos hr0⟩)
   rw [HC.out]
   clear hr0 HC
   obtain ⟨z0, z1, z2, z3⟩ := HQz_2.out.cells
   have f0 := HQz_2.out.frozen 0
   have f1 := HQz_2.out.frozen 1
   have f2 := HQz_2.out.frozen 2
   have f3 := HQz_2.out.frozen 3
   go_wp2
   exact bodyPost_ret (results_cell1 rfl _ _ _ _ _ _ _ rfl (HQz_2.out.all (.bool false) (.slice none 0 0) (.bool false) (.slice none 0 0)) Tryz.underlying35 rfl F_size) rfl (by rw [HV.out.1, HV.out.2.1, HV.out.2.2]; exact RetFE.stored (p := 0) (q := 1) ⟨PI.zero _, PI.zero _⟩ HQz_2.out HW_2.out (by rw [HH.out]; omega) _ _ _ _)
  ·have HC := hJ (show C = 0 by rw [← HRES.out.2.2]; exact if_neg hr0)
   have HV := hJ (show dvP p q r s = muP p q P Q ∧ dvQ p q r s = muQ p q P Q ∧ dvC p q r s = muC p q P Q by rw [← HRES.out.1, ← HRES.out.2.1]; exact ⟨if_neg hr0, if_neg hr0, if_neg hr0⟩)
   have HM := hJ (show 0 < Q ∧ P.natAbs < lim ∧ Q.natAbs < lim by rw [← HRES.out.1, ← HRES.out.2.1]; exact ⟨mkQ_pos, mkPQ_lim HL0.out.2.2.2.2.2 HL0.out.2.2.2.2.1⟩)
   rw [HC.out]
   clear hr0 HC
   obtain ⟨a0, a1, a2, a3⟩ := HQa_2.out.cells
   obtain ⟨g0, g1, g2, g3⟩ := HQ1.out.cells
   go_wp2_with fail
   refine (fmul_any p q P Q sa sb s1 s2 Aa Ab A1 A2 na ca nb cb n1 c1 n2 c2 x1 HRa_2.out HR1.out HL0.out.1 HM.out.1 HL0.out.2.2.1 HL0.out.2.2.2.1 HM.out.2.1 HM.out.2.2).mono ?_
   rintro e w3 ⟨s3, A3, n3, c3, s4, A4, n4, c4, rfl, hr3, hb3⟩
   have HR3 := hJ hr3
   have HB3 := hJ (bt HW_2.out hb3)
   have HZ3 := hJ (HQz_2.out.new hb3)
   clear hr3 hb3 a0 a1 a2 a3 g0 g1 g2 g3
   obtain ⟨z0, z1, z2, z3⟩ := HZ3.out.cells
   have f0 := HZ3.out.frozen 0
   have f1 := HZ3.out.frozen 1
   have f2 := HZ3.out.frozen 2
   have f3 := HZ3.out.frozen 3
   go_wp2
   exact bodyPost_ret (results_cell1 rfl _ _ _ _ _ _ _ rfl (HZ3.out.all (.bool s3) (.slice A3 n3 c3) (.bool s4) (.slice A4 n4 c4)) Tryz.underlying35 rfl F_size) rfl (by rw [HV.out.1, HV.out.2.1, HV.out.2.2]; exact RetFE.stored HR3.out HZ3.out HB3.out (by rw [HH.out]; omega) _ _ _ _)

end Go.Proofs.YtbhnaffbgggabaaGreat
