/- Contracts of the reference's fractions: Sub, Pick, Number, Frac. Conditions: as each statement has them. -/
import Derived.Test.YtbhnaffbgggabaaGreatAA
import Derived.Test.YtbhnaffbgggabaaGreatAB
import Derived.Deep.DeepCutAuto
namespace Go.Proofs.YtbhnaffbgggabaaGreat
open Go.RowKit
attribute [local go_sem ↓] Go.wp_at_zero Go.wp_at_succ
set_option linter.unusedVariables false
set_option linter.unusedSimpArgs false
theorem rk_neg {k : Nat} {p q : Int} (h : Rk k p q) : Rk k (-p) q := ⟨⟨h.1.1, by rw [Int.natAbs_neg]; exact h.1.2⟩, B2.neg h.2.1, h.2.2⟩
/-- Some integer that fits. -/
def RetI (w : World) (e : Ending) (w' : World) : Prop := ∃ x : Int, e = .returned (.int .i64 x) ∧ (Lit.int .i64 x).wf = true ∧ w = w'
set_option maxRecDepth 100000 in
set_option maxHeartbeats 1600000 in
theorem r4pick_any (A : Option Addr) (ln c : Nat) (xs : List Int) (z : Int) (w : World) (h : Got w (.slice A ln c) xs) (h0 : 0 ≤ z) (h1 : z ≤ 1000) :
  Calls Tryz.prog 17 #[.slice A ln c, .int .i64 z] w (RetI w) := by
 obtain ⟨hs, hl, hw⟩ := h
 unfold maxLen at hl
 obtain ⟨i, rfl⟩ : ∃ i : Nat, z = (i : Int) := ⟨z.toNat, by omega⟩
 have hi0 : ¬ (i : Int) < 0 := by omega
 rcases hs with ⟨hv, rfl⟩ | ⟨ad, c', hv, hc, hcell⟩
 ·injection hv with e1 e2 e3
  subst e1 e2 e3
  go_enter Tryz.func17, Tryz.ntmps17
  go_wp2
  go_ret
  exact ⟨0, rfl, by decide, rfl⟩
 ·injection hv with e1 e2 e3
  subst e1 e2 e3
  obtain ⟨n, hn⟩ : ∃ n, xs.length = n := ⟨_, rfl⟩
  have HN := hJ hn
  rw [hn] at hl hc ⊢
  clear hn
  rcases Nat.lt_or_ge i n with hlt | hge
  ·obtain ⟨v, hv⟩ : ∃ v, xs[i]? = some v := ⟨_, List.getElem?_eq_getElem (by rw [HN.out]; exact hlt)⟩
   have hcv := hcell i v hv
   have HW := hJ (hw v (List.mem_of_getElem? hv))
   clear hcell hw
   go_enter Tryz.func17, Tryz.ntmps17
   go_wp2
   go_ret
   exact ⟨v, rfl, HW.out, rfl⟩
  ·go_enter Tryz.func17, Tryz.ntmps17
   go_wp2
   go_ret
   exact ⟨0, rfl, by decide, rfl⟩
/-- Some integer of the reference that is not too great. -/
def RetNum (w : World) (e : Ending) (w' : World) : Prop := ∃ x s A n c, e = .returned (.agg #[.bool s, .slice A n c]) ∧ RN w' s A n c x ∧ x.natAbs < B2 2000 ∧ Below w.heap.size w w'
theorem num_lim2 {x : Int} (h : x.natAbs < B2 2000) : x.natAbs < lim := B2.lim h (by decide)
theorem i64_b2 {x : Int} (h : (Lit.int .i64 x).wf = true) : x.natAbs < B2 64 := by
 have hb : -9223372036854775808 ≤ x ∧ x ≤ 9223372036854775807 := by simpa [Lit.wf, IntKind.min, IntKind.max, IntKind.signed, IntKind.bits] using h
 show x.natAbs < 2 ^ 64
 omega
theorem b2_e9 : (1000000007 : Int).natAbs < B2 30 := by decide
theorem one_bk (k : Nat) (hk : k ≠ 0) : (1 : Int).natAbs < B2 k := Nat.one_lt_two_pow hk
theorem one_b2 : (1 : Int).natAbs < B2 2000 := one_bk 2000 (by decide)
/-- Some fraction of the reference, in lowest terms and in range. -/
def RetFr (w : World) (e : Ending) (w' : World) : Prop := ∃ p q s A n c s' A' n' c', e = .returned (.agg #[.bool s, .slice A n c, .bool s', .slice A' n' c']) ∧ RN w' s A n c p ∧ RN w' s' A' n' c' q ∧ (Fr p q ∧ p.natAbs < B2 2001 ∧ q.natAbs < B2 2001) ∧ Below w.heap.size w w'
set_option maxRecDepth 100000 in
set_option maxHeartbeats 1600000 in
theorem r4number_any (a b : Int) (w : World) (ha : (Lit.int .i64 a).wf = true) (hb : (Lit.int .i64 b).wf = true) :
  Calls Tryz.prog 16 #[.int .i64 a, .int .i64 b] w (RetNum w) := by
 have HA := hJ ha
 have HBW := hJ hb
 obtain ⟨hb1, hb2⟩ : -9223372036854775808 ≤ a ∧ a ≤ 9223372036854775807 := by simpa [Lit.wf, IntKind.min, IntKind.max, IntKind.signed, IntKind.bits] using ha
 obtain ⟨k, hk⟩ : ∃ k, a.tmod 7 = k := ⟨_, rfl⟩
 have hk0 : -6 ≤ k ∧ k ≤ 6 := by
  rw [← hk]
  have h1 := Int.tmod_lt_of_pos a (show (0 : Int) < 7 by decide)
  have h2 := Int.lt_tmod_of_pos a (show (0 : Int) < 7 by decide)
  omega
 obtain ⟨hk1, hk2⟩ := hk0
 obtain ⟨u, hu⟩ : ∃ u, b.tmod 60 = u := ⟨_, rfl⟩
 have hu0 : -59 ≤ u ∧ u ≤ 59 := by
  rw [← hu]
  have h1 := Int.tmod_lt_of_pos b (show (0 : Int) < 60 by decide)
  have h2 := Int.lt_tmod_of_pos b (show (0 : Int) < 60 by decide)
  omega
 have HU := hJ (show (Lit.int .i64 u).wf = true from WalkArith.wf_i64 ⟨by omega, by omega⟩)
 obtain ⟨m, hm⟩ : ∃ m, (a.tdiv 7).tmod 40 = m := ⟨_, rfl⟩
 have hd0 : -9223372036854775808 ≤ a.tdiv 7 ∧ a.tdiv 7 ≤ 9223372036854775807 := by
  rcases Int.le_total 0 a with h | h
  ·rw [Int.tdiv_eq_ediv_of_nonneg h]; omega
  ·have e : a.tdiv 7 = -((-a) / 7) := by rw [← Int.tdiv_eq_ediv_of_nonneg (by omega), Int.neg_tdiv, Int.neg_neg]
   rw [e]; omega
 have hm0 : -39 ≤ m ∧ m ≤ 39 := by
  rw [← hm]
  have h1 := Int.tmod_lt_of_pos (a.tdiv 7) (show (0 : Int) < 40 by decide)
  have h2 := Int.lt_tmod_of_pos (a.tdiv 7) (show (0 : Int) < 40 by decide)
  omega
 obtain ⟨hm1, hm2⟩ := hm0
 clear ha hb hb1 hb2 hu0
 obtain ⟨hd1, hd2⟩ := hd0
 obtain ⟨x1, hx1⟩ := nmz (w.alloc (.cells #[.bool false, .slice none 0 0] 24))
 have HB1 := hJ (show Below w.heap.size w x1 by rw [← hx1]; exact ((Below.refl _ _).alloc (Nat.le_refl _) _))
 have HQ1x0 := hJ (show BX 24 x1 w.heap.size #[.bool false, .slice none 0 0] by rw [← hx1]; exact (BX.at rfl))
 have HG1x0 := hJ (show w.heap.size ≤ w.heap.size by omega)
 have HL1x0 := hJ (show w.heap.size < x1.heap.size from HQ1x0.out.lt)
 go_enter Tryz.func16, Tryz.ntmps16
 go_upto_if 11 with fail
 clear hx1
 go_cut [5] (fun v wx => ∃ j : Int, v = .int .i64 j ∧ (0 ≤ j ∧ j ≤ 6) ∧ x1 = wx)
 case first =>
  rcases (show k < 0 ∨ ¬ k < 0 by omega) with q | q
  ·go_wp2_with fail
   go_meet
   exact ⟨k + 7, rfl, ⟨by omega, by omega⟩, rfl⟩
  ·go_wp2_with fail
   go_meet
   exact ⟨k, rfl, ⟨by omega, by omega⟩, rfl⟩
 case rest =>
  obtain ⟨j, rfl, ⟨hj1, hj2⟩, hwc⟩ := hcut
  subst hwc
  clear hk1 hk2
  rcases (show j < 4 ∨ (¬ j < 4 ∧ j < 6) ∨ (¬ j < 4 ∧ ¬ j < 6) by omega) with q1 | ⟨q1, q2⟩ | ⟨q1, q2⟩
  ·skip
   go_wp2_with fail
   refine (of_any u x1 HU.out).mono ?_
   rintro e w2 ⟨s11, A11, n11, c11, rfl, hr11, hb⟩
   have HB2 := hJ hb
   have HR2hr11 := hJ hr11
   clear hb hr11
   have HQ1x0w2 := hJ (BX.new HQ1x0.out HB2.out)
   have fz3_0 := HQ1x0w2.out.frozen 0
   have fc3_0 := HQ1x0w2.out.cell 0 rfl
   have fz3_1 := HQ1x0w2.out.frozen 1
   have fc3_1 := HQ1x0w2.out.cell 1 rfl
   obtain ⟨x3, hx3⟩ := nmz (World.setCell (World.setCell w2 ⟨w.heap.size, 0, none⟩ (.bool s11)) ⟨w.heap.size, 1, none⟩ (.slice A11 n11 c11))
   have HE3 := hJ (show sto w2 w.heap.size 0 [.bool s11, .slice A11 n11 c11] = x3 from hx3)
   have HQ3s := hJ (show BX 24 x3 w.heap.size #[.bool s11, .slice A11 n11 c11] by rw [← HE3.out]; exact BX.put HQ1x0w2.out _ _)
   have HC0_3 := hJ (show Below w.heap.size w x3 by rw [← HE3.out]; exact below_sto (bt HB1.out HB2.out) HG1x0.out _ _)
   have HR2hr11w3 := hJ (show RN x3 s11 A11 n11 c11 u by rw [← HE3.out]; exact RNo.sto HR2hr11.out HQ1x0w2.out rfl _ _)
   go_wp2
   clear fz3_0 fc3_0 fz3_1 fc3_1 hx3
   exact bodyPost_ret (results_cell_row rfl _ _ _ _ _ _ _ rfl HQ3s.out Tryz.underlying24 rfl N_size) rfl ⟨u, s11, A11, n11, c11, rfl, HR2hr11w3.out, B2.le (i64_b2 HU.out) (by decide), HC0_3.out⟩
  ·skip
   go_wp2_with fail
   refine (of_any b x1 HBW.out).mono ?_
   rintro e w4 ⟨s12, A12, n12, c12, rfl, hr12, hb⟩
   have HB4 := hJ hb
   have HR4hr12 := hJ hr12
   clear hb hr12
   have HQ1x0w2 := hJ (BX.new HQ1x0.out HB4.out)
   have fz5_0 := HQ1x0w2.out.frozen 0
   have fc5_0 := HQ1x0w2.out.cell 0 rfl
   have fz5_1 := HQ1x0w2.out.frozen 1
   have fc5_1 := HQ1x0w2.out.cell 1 rfl
   obtain ⟨x5, hx5⟩ := nmz (World.setCell (World.setCell w4 ⟨w.heap.size, 0, none⟩ (.bool s12)) ⟨w.heap.size, 1, none⟩ (.slice A12 n12 c12))
   have HE5 := hJ (show sto w4 w.heap.size 0 [.bool s12, .slice A12 n12 c12] = x5 from hx5)
   have HQ5s := hJ (show BX 24 x5 w.heap.size #[.bool s12, .slice A12 n12 c12] by rw [← HE5.out]; exact BX.put HQ1x0w2.out _ _)
   have HC0_3 := hJ (show Below w.heap.size w x5 by rw [← HE5.out]; exact below_sto (bt HB1.out HB4.out) HG1x0.out _ _)
   have HR4hr12w3 := hJ (show RN x5 s12 A12 n12 c12 b by rw [← HE5.out]; exact RNo.sto HR4hr12.out HQ1x0w2.out rfl _ _)
   go_wp2
   clear fz5_0 fc5_0 fz5_1 fc5_1 hx5
   exact bodyPost_ret (results_cell_row rfl _ _ _ _ _ _ _ rfl HQ5s.out Tryz.underlying24 rfl N_size) rfl ⟨b, s12, A12, n12, c12, rfl, HR4hr12w3.out, B2.le (i64_b2 HBW.out) (by decide), HC0_3.out⟩
  ·skip
   go_wp2_with fail
   refine (of_any b x1 HBW.out).mono ?_
   rintro e w6 ⟨s13, A13, n13, c13, rfl, hr13, hb⟩
   have HB6 := hJ hb
   have HR6hr13 := hJ hr13
   clear hb hr13
   go_wp2_with fail
   refine (of_any 3 w6 (by decide)).mono ?_
   rintro e w7 ⟨s14, A14, n14, c14, rfl, hr14, hb⟩
   have HB7 := hJ hb
   have HR7hr14 := hJ hr14
   clear hb hr14
   have HR6hr13w3 := hJ (RNo.new HR6hr13.out HB7.out)
   go_wp2_with fail
   refine (add_any b 3 s13 s14 A13 A14 n13 c13 n14 c14 w7 HR6hr13w3.out HR7hr14.out (Nat.le_trans (rlim HR6hr13w3.out (i64_lim (x := b) HBW.out)) (by decide)) (Nat.le_trans (rlim HR7hr14.out (i64_lim (x := 3) (by decide))) (by decide))).mono ?_
   rintro e w8 ⟨s15, A15, n15, c15, rfl, hr15, hb⟩
   have HB8 := hJ hb
   have HR8hr15 := hJ hr15
   clear hb hr15
   obtain ⟨x9, hx9⟩ := nmz (w8.alloc (.cells #[.bool s15, .slice A15 n15 c15] 24))
   have HB9 := hJ (show Below w8.heap.size w8 x9 by rw [← hx9]; exact ((Below.refl _ _).alloc (Nat.le_refl _) _))
   have HQ9x0 := hJ (show BX 24 x9 w8.heap.size #[.bool s15, .slice A15 n15 c15] by rw [← hx9]; exact (BX.at rfl))
   have HG9x0 := hJ (show w8.heap.size ≤ w8.heap.size by omega)
   have HL9x0 := hJ (show w8.heap.size < x9.heap.size from HQ9x0.out.lt)
   have HR8hr15w5 := hJ (RNo.new HR8hr15.out HB9.out)
   have HS10 := hJ (show (b + 3).natAbs < B2 (66 + 30 * 0) from B2.add (B2.le (i64_b2 HBW.out) (by decide)) (B2.le (i64_b2 (x := 3) (by decide)) (by decide)))
   have HC0_4 := hJ (bt (bt (bt HB1.out HB6.out) HB7.out) HB8.out)
   have HC1_4 := hJ (bt (bt HB6.out HB7.out) HB8.out)
   have HC2_4 := hJ (bt HB7.out HB8.out)
   go_wp2_with fail
   clear hx9
   go_loopw [7] (fun tv wr => ∃ (i : Nat) (sx : Bool) (Ax : Option Addr) (nx cx : Nat) (xx : Int), i ≤ 39 ∧ tv = .int .i64 (i : Int) ∧ BX 24 wr (w8.heap.size) #[.bool sx, .slice Ax nx cx] ∧ RN wr sx Ax nx cx xx ∧ Hid (xx.natAbs < B2 (66 + 30 * i)) ∧ Below w8.heap.size w8 wr) (fun tv _ => 39 - (intOf tv).toNat)
   case atStart => exact ⟨0, s15, A15, n15, c15, b + 3, by omega, rfl, HQ9x0.out, HR8hr15w5.out, HS10, HB9.out⟩
   case round =>
    obtain ⟨i, sx, Ax, nx, cx, xx, hi, rfl, hq, hr, HXX, hbel⟩ := hrel
    obtain ⟨wl, rfl⟩ : ∃ W : World, W = wr := ⟨_, rfl⟩
    have HBW10 := hJ hbel
    have HQW := hJ hq
    have HRW := hJ hr
    clear hbel hq hr
    have HBX10_0 := hJ (bt HC0_4.out HBW10.out)
    have HBX10_1 := hJ (bt HC1_4.out HBW10.out)
    have HBX10_2 := hJ (bt HC2_4.out HBW10.out)
    have HBX10_3 := hJ (bt HB8.out HBW10.out)
    have HLW10 := hJ (HQW.out.lt)
    rcases (show (i : Int) < m ∨ ¬ (i : Int) < m by omega) with hlt | hlt
    ·have h0i : (0 : Int) ≤ (i : Int) := by omega
     have HS11 : Hid (∀ w', Below wl.heap.size wl w' → (fun w' : World => Below w8.heap.size w8 w') w') := hJ (fun w' hb => (bt HBW10.out hb))
     go_wp2_with fail
     obtain ⟨v11, hv11⟩ := nmz (World.drew wl)
     have HX11 := hJ (show Below wl.heap.size wl v11 by rw [← hv11]; exact (Below.refl _ _).drew)
     refine wp_region_held_drew (S := (fun w' : World => Below w8.heap.size w8 w')) (by kernel_rfl) ?_ (fun hHeld => ?_)
     ·rw [hv11]
      exact HS11.out _ HX11.out
     rw [hv11] at hHeld ⊢
     clear hv11
     refine wpAnyH_name (fun F hF a0 ha0 L0 hL0 => ?_)
     have J12_0_1_2 : ∀ (s16 : Bool) (A16 : Option Addr) (n16 : Nat) (c16 : Nat) (s17 : Bool) (A17 : Option Addr) (n17 : Nat) (c17 : Nat) (v : World), Hid (Below wl.heap.size wl v) → Hid (RN v s16 A16 n16 c16 1000000007) → Hid (RN v s17 A17 n17 c17 (xx * 1000000007)) → F 1 (Array.setIfInBounds (Array.setIfInBounds (Array.setIfInBounds L0 0 true) 1 true) 2 true) (Act.put (Act.put (Act.put a0 (some 34) (.agg #[.bool sx, .slice Ax nx cx])) (some 35) (.agg #[.bool s16, .slice A16 n16 c16])) (some 36) (.agg #[.bool s17, .slice A17 n17 c17])) v := by
      intro s16 A16 n16 c16 s17 A17 n17 c17 v HXj HZ1hr16j HZ2hr17j
      subst hF ha0 hL0
      simp only [PT] at  ⊢
      have hHeld := HS11.out _ HXj.out
      refine wpAnyH_ready (rs := [3]) (by kernel_rfl) (by simp) ?_
      refine .cons rfl (fun K hK => ?_) .nil
      have HP12 := hJ (BX.new HQW.out HXj.out)
      have z12_0 := HP12.out.cell 0 rfl
      have y12_0 := HP12.out.frozen 0
      have z12_1 := HP12.out.cell 1 rfl
      have y12_1 := HP12.out.frozen 1
      have z12 := HP12.out.lt
      go_simp
      obtain ⟨v12, hV⟩ := nmz (World.setCell (World.setCell v ⟨w8.heap.size, 0, none⟩ (.bool s17)) ⟨w8.heap.size, 1, none⟩ (.slice A17 n17 c17))
      rw [hV]
      have HE12 := hJ (show sto v w8.heap.size 0 [.bool s17, .slice A17 n17 c17] = v12 from hV)
      clear hV z12 z12_0 y12_0 z12_1 y12_1
      have HX12 := hJ (show Below w8.heap.size w8 v12 by rw [← HE12.out]; exact below_sto (bt HBW10.out HXj.out) HG9x0.out _ _)
      clear hHeld
      refine hK.out _ _ (HX12.out) (fun hHeld => ?_)
      clear hK K
      try simp only [PT]
      refine wpAnyH_done (by kernel_rfl) ?_ _
      clear hHeld
      have HQ12s := hJ (show BX 24 v12 w8.heap.size #[.bool s17, .slice A17 n17 c17] by rw [← HE12.out]; exact BX.put HP12.out _ _)
      have HZ2hr17jw8 := hJ (show RN v12 s17 A17 n17 c17 (xx * 1000000007) by rw [← HE12.out]; exact RNo.sto HZ2hr17j.out HP12.out rfl _ _)
      have HC4_8 := hJ (show Below w8.heap.size w8 v12 by rw [← HE12.out]; exact below_sto (bt HBW10.out HXj.out) HG9x0.out _ _)
      have HXN := hJ (show (xx * 1000000007).natAbs < B2 (66 + 30 * (i + 1)) from B2.le (B2.mul HXX.out (b2_e9)) (by omega))
      go_wp2_with fail
      go_roundw
      case rel => exact ⟨i + 1, s17, A17, n17, c17, xx * 1000000007, by omega, by go_num, HQ12s.out, HZ2hr17jw8.out, HXN, HC4_8.out⟩
      case measure => simp [intOf] <;> omega
     have J12_0_1 : ∀ (s16 : Bool) (A16 : Option Addr) (n16 : Nat) (c16 : Nat) (v : World), Hid (Below wl.heap.size wl v) → Hid (RN v s16 A16 n16 c16 1000000007) → F 2 (Array.setIfInBounds (Array.setIfInBounds L0 0 true) 1 true) (Act.put (Act.put a0 (some 34) (.agg #[.bool sx, .slice Ax nx cx])) (some 35) (.agg #[.bool s16, .slice A16 n16 c16])) v := by
      intro s16 A16 n16 c16 v HXj HZ1hr16j
      subst hF ha0 hL0
      simp only [PT] at J12_0_1_2 ⊢
      have hHeld := HS11.out _ HXj.out
      refine wpAnyH_ready (rs := [2]) (by kernel_rfl) (by simp) ?_
      refine .cons rfl (fun K hK => ?_) .nil
      go_simp
      go_at_call 18
      refine (mul_any xx 1000000007 sx s16 Ax A16 nx cx n16 c16 v (RNo.new HRW.out HXj.out) HZ1hr16j.out (Nat.le_trans (B2.rlen (RNo.new HRW.out HXj.out) HXX.out) (by omega)) (Nat.le_trans (rlim HZ1hr16j.out (i64_lim (x := 1000000007) (by decide))) (by decide))).mono ?_
      rintro e v13 ⟨s17, A17, n17, c17, rfl, hr17, hb⟩
      have HB13 := hJ hb
      have HR13hr17 := hJ hr17
      clear hb hr17
      go_wp2_with fail
      have HX13 := hJ (bt HXj.out HB13.out)
      have HZ13_0 := hJ (RNo.new HZ1hr16j.out HB13.out)
      clear hHeld
      refine hK.out _ _ (HS11.out _ HX13.out) (fun hHeld => ?_)
      clear hK K
      try simp only [PT]
      exact wpAnyH_cast (by kernel_rfl) (J12_0_1_2 s16 A16 n16 c16 s17 A17 n17 c17 v13 HX13 HZ13_0 HR13hr17)
     have J12_0 : ∀ (v : World), Hid (Below wl.heap.size wl v) → F 3 (Array.setIfInBounds L0 0 true) (Act.put a0 (some 34) (.agg #[.bool sx, .slice Ax nx cx])) v := by
      intro  v HXj
      subst hF ha0 hL0
      simp only [PT] at J12_0_1 ⊢
      have hHeld := HS11.out _ HXj.out
      refine wpAnyH_ready (rs := [1]) (by kernel_rfl) (by simp) ?_
      refine .cons rfl (fun K hK => ?_) .nil
      go_simp
      go_at_call 21
      refine (of_any 1000000007 v (by decide)).mono ?_
      rintro e v14 ⟨s16, A16, n16, c16, rfl, hr16, hb⟩
      have HB14 := hJ hb
      have HR14hr16 := hJ hr16
      clear hb hr16
      go_wp2_with fail
      have HX14 := hJ (bt HXj.out HB14.out)
      clear hHeld
      refine hK.out _ _ (HS11.out _ HX14.out) (fun hHeld => ?_)
      clear hK K
      try simp only [PT]
      exact wpAnyH_cast (by kernel_rfl) (J12_0_1 s16 A16 n16 c16 v14 HX14 HR14hr16)
     have J12_1 : ∀ (s16 : Bool) (A16 : Option Addr) (n16 : Nat) (c16 : Nat) (v : World), Hid (Below wl.heap.size wl v) → Hid (RN v s16 A16 n16 c16 1000000007) → F 3 (Array.setIfInBounds L0 1 true) (Act.put a0 (some 35) (.agg #[.bool s16, .slice A16 n16 c16])) v := by
      intro s16 A16 n16 c16 v HXj HZ1hr16j
      subst hF ha0 hL0
      simp only [PT] at J12_0_1 ⊢
      have hHeld := HS11.out _ HXj.out
      refine wpAnyH_ready (rs := [0]) (by kernel_rfl) (by simp) ?_
      refine .cons rfl (fun K hK => ?_) .nil
      have z15_0 := (BX.new HQW.out HXj.out).cell 0 rfl
      have z15_1 := (BX.new HQW.out HXj.out).cell 1 rfl
      go_simp
      clear hHeld
      refine hK.out _ _ (HS11.out _ HXj.out) (fun hHeld => ?_)
      clear hK K z15_0 z15_1
      try simp only [PT]
      exact wpAnyH_cast (by kernel_rfl) (J12_0_1 s16 A16 n16 c16 v HXj HZ1hr16j)
     subst hF ha0 hL0
     simp only [PT] at J12_0 J12_1
     refine wpAnyH_ready (rs := [0, 1]) (by kernel_rfl) (by simp) ?_
     refine .cons rfl (fun K hK => ?_) ?_
     have z16_0 := (BX.new HQW.out HX11.out).cell 0 rfl
     have z16_1 := (BX.new HQW.out HX11.out).cell 1 rfl
     go_simp
     clear hHeld
     refine hK.out _ _ (HS11.out _ HX11.out) (fun hHeld => ?_)
     clear hK K z16_0 z16_1
     try simp only [PT]
     exact wpAnyH_cast (by kernel_rfl) (J12_0  v11 HX11)
     refine .cons rfl (fun K hK => ?_) .nil
     go_simp
     go_at_call 21
     refine (of_any 1000000007 v11 (by decide)).mono ?_
     rintro e v17 ⟨s16, A16, n16, c16, rfl, hr16, hb⟩
     have HB17 := hJ hb
     have HR17hr16 := hJ hr16
     clear hb hr16
     go_wp2_with fail
     have HX17 := hJ (bt HX11.out HB17.out)
     clear hHeld
     refine hK.out _ _ (HS11.out _ HX17.out) (fun hHeld => ?_)
     clear hK K
     try simp only [PT]
     exact wpAnyH_cast (by kernel_rfl) (J12_1 s16 A16 n16 c16 v17 HX17 HR17hr16)
    ·have h0i : (0 : Int) ≤ (i : Int) := by omega
     obtain ⟨cl18, cl19⟩ := HQW.out.c2 0 1 rfl rfl
     have HQ1x0w6 := hJ (BX.new HQ1x0.out HBX10_1.out)
     have fz20_0 := HQ1x0w6.out.frozen 0
     have fc20_0 := HQ1x0w6.out.cell 0 rfl
     have fz20_1 := HQ1x0w6.out.frozen 1
     have fc20_1 := HQ1x0w6.out.cell 1 rfl
     obtain ⟨x20, hx20⟩ := nmz (World.setCell (World.setCell wl ⟨w.heap.size, 0, none⟩ (.bool sx)) ⟨w.heap.size, 1, none⟩ (.slice Ax nx cx))
     have HE20 := hJ (show sto wl w.heap.size 0 [.bool sx, .slice Ax nx cx] = x20 from hx20)
     have HQ20s := hJ (show BX 24 x20 w.heap.size #[.bool sx, .slice Ax nx cx] by rw [← HE20.out]; exact BX.put HQ1x0w6.out _ _)
     have HC0_7 := hJ (show Below w.heap.size w x20 by rw [← HE20.out]; exact below_sto HBX10_0.out HG1x0.out _ _)
     have HRWw7 := hJ (show RN x20 sx Ax nx cx xx by rw [← HE20.out]; exact RNo.sto HRW.out HQ1x0w6.out rfl _ _)
     go_wp2
     clear cl18 cl19 fz20_0 fc20_0 fz20_1 fc20_1 hx20
     exact bodyPost_ret (results_cell_row rfl _ _ _ _ _ _ _ rfl HQ20s.out Tryz.underlying24 rfl N_size) rfl ⟨xx, sx, Ax, nx, cx, rfl, HRWw7.out, B2.le HXX.out (by omega), HC0_7.out⟩
set_option maxRecDepth 100000 in
set_option maxHeartbeats 1600000 in
theorem r4frac_any (A : Option Addr) (ln c : Nat) (xs : List Int) (z : Int) (w : World) (hg : Got w (.slice A ln c) xs) (h0 : 0 ≤ z) (h1 : z ≤ 100) :
  Calls Tryz.prog 30 #[.slice A ln c, .int .i64 z] w (RetFr w) := by
 have HG := hJ hg
 clear hg
 have HW1 := hJ (show IntKind.i64.wrap (z + 1) = z + 1 from IntWalk.i64_in _ ⟨by omega, by omega⟩)
 obtain ⟨x1, hx1⟩ := nmz (w.alloc (.cells #[.bool false, .slice none 0 0, .bool false, .slice none 0 0] 41))
 have HB1 := hJ (show Below w.heap.size w x1 by rw [← hx1]; exact ((Below.refl _ _).alloc (Nat.le_refl _) _))
 have HQ1x0 := hJ (show BX 41 x1 w.heap.size #[.bool false, .slice none 0 0, .bool false, .slice none 0 0] by rw [← hx1]; exact (BX.at rfl))
 have HG1x0 := hJ (show w.heap.size ≤ w.heap.size by omega)
 have HL1x0 := hJ (show w.heap.size < x1.heap.size from HQ1x0.out.lt)
 have HGw1 := hJ (Got.new HG.out HB1.out)
 go_enter Tryz.func30, Tryz.ntmps30
 go_wp2_with fail
 clear hx1
 refine (r4pick_any A ln c xs ((z + 2)) x1 HGw1.out (by omega) (by omega)).mono ?_
 rintro e w2 ⟨x11, rfl, hx11, rfl⟩
 have HWF11 := hJ hx11
 clear hx11
 go_wp2_with fail
 refine (r4pick_any A ln c xs ((z + 3)) x1 HGw1.out (by omega) (by omega)).mono ?_
 rintro e w3 ⟨x12, rfl, hx12, rfl⟩
 have HWF12 := hJ hx12
 clear hx12
 go_wp2_with fail
 refine (r4number_any x11 x12 x1 HWF11.out HWF12.out).mono ?_
 rintro e w4 ⟨x13, s13, A13, n13, c13, rfl, hr13, hx13, hb⟩
 have HB4 := hJ hb
 have HR4hr13 := hJ hr13
 clear hb hr13
 have HNM13 := hJ hx13
 clear hx13
 by_cases h0 : x13 = 0
 ·subst h0
  obtain rfl : n13 = 0 := rn_zero HR4hr13.out
  obtain ⟨x5, hx5⟩ := nmz (w4.alloc (.cells #[.bool s13, .slice A13 0 c13] 24))
  have HB5 := hJ (show Below w4.heap.size w4 x5 by rw [← hx5]; exact ((Below.refl _ _).alloc (Nat.le_refl _) _))
  have HQ5x0 := hJ (show BX 24 x5 w4.heap.size #[.bool s13, .slice A13 0 c13] by rw [← hx5]; exact (BX.at rfl))
  have HG5x0 := hJ (show w4.heap.size ≤ w4.heap.size by omega)
  have HL5x0 := hJ (show w4.heap.size < x5.heap.size from HQ5x0.out.lt)
  have cl6 := HQ5x0.out.cell 1 rfl
  go_wp2_with fail
  clear hx5 cl6
  refine (of_any 1 x5 (by decide)).mono ?_
  rintro e w7 ⟨s14, A14, n14, c14, rfl, hr14, hb⟩
  have HB7 := hJ hb
  have HR7hr14 := hJ hr14
  clear hb hr14
  have HQ5x0w4 := hJ (BX.new HQ5x0.out HB7.out)
  have fz8_0 := HQ5x0w4.out.frozen 0
  have fc8_0 := HQ5x0w4.out.cell 0 rfl
  have fz8_1 := HQ5x0w4.out.frozen 1
  have fc8_1 := HQ5x0w4.out.cell 1 rfl
  obtain ⟨x8, hx8⟩ := nmz (World.setCell (World.setCell w7 ⟨w4.heap.size, 0, none⟩ (.bool s14)) ⟨w4.heap.size, 1, none⟩ (.slice A14 n14 c14))
  have HE8 := hJ (show sto w7 w4.heap.size 0 [.bool s14, .slice A14 n14 c14] = x8 from hx8)
  have HQ8s := hJ (show BX 24 x8 w4.heap.size #[.bool s14, .slice A14 n14 c14] by rw [← HE8.out]; exact BX.put HQ5x0w4.out _ _)
  have HS9 : Hid (∀ w', Below x8.heap.size x8 w' → (fun w' : World => w'.cell? ⟨w4.heap.size, 0, none⟩ = some (.bool s14) ∧ w'.cell? ⟨w4.heap.size, 1, none⟩ = some (.slice A14 n14 c14) ∧ Below x8.heap.size x8 w') w') := hJ (fun w' hb => ⟨(BX.new HQ8s.out hb).cell 0 rfl, (BX.new HQ8s.out hb).cell 1 rfl, hb⟩)
  have HC1_5 := hJ (show Below x1.heap.size x1 x8 by rw [← HE8.out]; exact below_sto (bt (bt HB4.out HB5.out) HB7.out) (Nat.le_trans (HB4.out).size HG5x0.out) _ _)
  have HGw5 := hJ (Got.new HGw1.out HC1_5.out)
  have HR7hr14w5 := hJ (show RN x8 s14 A14 n14 c14 1 by rw [← HE8.out]; exact RNo.sto HR7hr14.out HQ5x0w4.out rfl _ _)
  go_wp2_with fail
  clear fz8_0 fc8_0 fz8_1 fc8_1 hx8
  obtain ⟨v9, hv9⟩ := nmz (World.drew x8)
  have HX9 := hJ (show Below x8.heap.size x8 v9 by rw [← hv9]; exact (Below.refl _ _).drew)
  refine wp_region_held_drew (S := (fun w' : World => w'.cell? ⟨w4.heap.size, 0, none⟩ = some (.bool s14) ∧ w'.cell? ⟨w4.heap.size, 1, none⟩ = some (.slice A14 n14 c14) ∧ Below x8.heap.size x8 w')) (by kernel_rfl) ?_ (fun hHeld => ?_)
  ·rw [hv9]
   exact HS9.out _ HX9.out
  rw [hv9] at hHeld ⊢
  clear hv9
  refine tq 0 ?_
  try simp only [PT]
  refine tq 1 ?_
  try simp only [PT]
  refine tq 3 ?_
  try simp only [PT]
  refine tq 4 ?_
  try simp only [PT]
  refine tk 5 (.int .i64 (z + 1)) ?_ ?_
  ·intro w hSw
   (try dsimp only at hSw)
   go_simp
   first | exact HW1.out | (rw [HW1.out])
  try simp only [PT]
  refine tq 8 ?_
  try simp only [PT]
  refine wpAnyH_name (fun F hF a0 ha0 L0 hL0 => ?_)
  have J4_2_6_7_9_13 : ∀ (x15 : Int) (x16 : Int) (x17 : Int) (s17 : Bool) (A17 : Option Addr) (n17 : Nat) (c17 : Nat) (s18 : Bool) (A18 : Option Addr) (n18 : Nat) (c18 : Nat) (t18 : Bool) (B18 : Option Addr) (m18 : Nat) (d18 : Nat) (g4_13 : Nat) (v : World), Hid (Below x8.heap.size x8 v) → Hid ((Lit.int .i64 x15).wf = true) → Hid ((Lit.int .i64 x16).wf = true) → Hid (RN v s17 A17 n17 c17 x17) → Hid (x17.natAbs < B2 2000) → Hid (RN v s18 A18 n18 c18 (mkP x17 1)) → Hid (RN v t18 B18 m18 d18 (mkQ x17 1)) → Hid (BX 41 v g4_13 #[.bool false, .slice none 0 0, .bool false, .slice none 0 0]) → Hid (x8.heap.size ≤ g4_13) → F 2 (Array.setIfInBounds (Array.setIfInBounds (Array.setIfInBounds (Array.setIfInBounds (Array.setIfInBounds (Array.setIfInBounds (Array.setIfInBounds (Array.setIfInBounds L0 2 true) 6 true) 7 true) 9 true) 13 true) 10 true) 11 true) 12 true) (Act.put (Act.put (Act.put (Act.put (Act.put (Act.put (Act.put (Act.put a0 (some 25) (.int .i64 x15)) (some 29) (.int .i64 x16)) (some 30) (.agg #[.bool s17, .slice A17 n17 c17])) (some 32) (.tuple #[.agg #[.bool s18, .slice A18 n18 c18, .bool t18, .slice B18 m18 d18], .int .i64 (mkC 1)])) (some 6) (.pointer (some ⟨g4_13, 0, none⟩))) (some 22) (.tuple #[.agg #[.bool s18, .slice A18 n18 c18, .bool t18, .slice B18 m18 d18], .int .i64 (mkC 1)])) (some 33) (.agg #[.bool s18, .slice A18 n18 c18, .bool t18, .slice B18 m18 d18])) (some 34) (.int .i64 (mkC 1))) v := by
   intro x15 x16 x17 s17 A17 n17 c17 s18 A18 n18 c18 t18 B18 m18 d18 g4_13 v HXj HWF15 HWF16 HZ7hr17j HNM17 HZ9hr18j HZ9hs18j HPg4_13j HGg4_13j
   subst hF ha0 hL0
   simp only [PT] at  ⊢
   have hHeld := HS9.out _ HXj.out
   refine wpAnyH_ready (rs := [14]) (by kernel_rfl) (by simp) ?_
   refine .cons rfl (fun K hK => ?_) .nil
   have z10_0 := HPg4_13j.out.cell 0 rfl
   have y10_0 := HPg4_13j.out.frozen 0
   have z10_1 := HPg4_13j.out.cell 1 rfl
   have y10_1 := HPg4_13j.out.frozen 1
   have z10_2 := HPg4_13j.out.cell 2 rfl
   have y10_2 := HPg4_13j.out.frozen 2
   have z10_3 := HPg4_13j.out.cell 3 rfl
   have y10_3 := HPg4_13j.out.frozen 3
   have z10 := HPg4_13j.out.lt
   go_simp
   obtain ⟨v10, hV⟩ := nmz (World.setCell (World.setCell (World.setCell (World.setCell v ⟨g4_13, 0, none⟩ (.bool s18)) ⟨g4_13, 1, none⟩ (.slice A18 n18 c18)) ⟨g4_13, 2, none⟩ (.bool t18)) ⟨g4_13, 3, none⟩ (.slice B18 m18 d18))
   rw [hV]
   have HE10 := hJ (show sto v g4_13 0 [.bool s18, .slice A18 n18 c18, .bool t18, .slice B18 m18 d18] = v10 from hV)
   clear hV z10 z10_0 y10_0 z10_1 y10_1 z10_2 y10_2 z10_3 y10_3
   have HX10 := hJ (show Below x8.heap.size x8 v10 by rw [← HE10.out]; exact below_sto HXj.out HGg4_13j.out _ _)
   have HZ10_0 := hJ (show RN v10 s17 A17 n17 c17 x17 by rw [← HE10.out]; exact RNo.sto HZ7hr17j.out HPg4_13j.out rfl _ _)
   have HZ10_1 := hJ (show RN v10 s18 A18 n18 c18 (mkP x17 1) by rw [← HE10.out]; exact RNo.sto HZ9hr18j.out HPg4_13j.out rfl _ _)
   have HZ10_2 := hJ (show RN v10 t18 B18 m18 d18 (mkQ x17 1) by rw [← HE10.out]; exact RNo.sto HZ9hs18j.out HPg4_13j.out rfl _ _)
   have HP10g4_13 := hJ (show BX 41 v10 g4_13 #[.bool s18, .slice A18 n18 c18, .bool t18, .slice B18 m18 d18] by rw [← HE10.out]; exact BX.put HPg4_13j.out _ _)
   clear hHeld
   refine hK.out _ _ (HS9.out _ HX10.out) (fun hHeld => ?_)
   clear hK K
   try simp only [PT]
   refine tq 15 ?_
   try simp only [PT]
   refine wpAnyH_done (by kernel_rfl) ?_ _
   clear hHeld
   have HL11 := hJ (show g4_13 < v10.heap.size from HP10g4_13.out.lt)
   obtain ⟨cl12, cl13, cl14, cl15⟩ := HP10g4_13.out.c4 0 1 2 3 rfl rfl rfl rfl
   have HC1_6 := hJ (bt HC1_5.out HX10.out)
   have HQ1x0w6 := hJ (BX.new HQ1x0.out HC1_6.out)
   have fz16_0 := HQ1x0w6.out.frozen 0
   have fc16_0 := HQ1x0w6.out.cell 0 rfl
   have fz16_1 := HQ1x0w6.out.frozen 1
   have fc16_1 := HQ1x0w6.out.cell 1 rfl
   have fz16_2 := HQ1x0w6.out.frozen 2
   have fc16_2 := HQ1x0w6.out.cell 2 rfl
   have fz16_3 := HQ1x0w6.out.frozen 3
   have fc16_3 := HQ1x0w6.out.cell 3 rfl
   obtain ⟨x16, hx16⟩ := nmz (World.setCell (World.setCell (World.setCell (World.setCell v10 ⟨w.heap.size, 0, none⟩ (.bool s18)) ⟨w.heap.size, 1, none⟩ (.slice A18 n18 c18)) ⟨w.heap.size, 2, none⟩ (.bool t18)) ⟨w.heap.size, 3, none⟩ (.slice B18 m18 d18))
   have HE16 := hJ (show sto v10 w.heap.size 0 [.bool s18, .slice A18 n18 c18, .bool t18, .slice B18 m18 d18] = x16 from hx16)
   have HQ16s := hJ (show BX 41 x16 w.heap.size #[.bool s18, .slice A18 n18 c18, .bool t18, .slice B18 m18 d18] by rw [← HE16.out]; exact BX.put HQ1x0w6.out _ _)
   have HC0_2 := hJ (bt HB1.out HB4.out)
   have HC0_5 := hJ (show Below w.heap.size w x8 by rw [← HE8.out]; exact below_sto (bt (bt (bt HB1.out HB4.out) HB5.out) HB7.out) (Nat.le_trans (HC0_2.out).size HG5x0.out) _ _)
   have HC0_7 := hJ (show Below w.heap.size w x16 by rw [← HE16.out]; exact below_sto (bt HC0_5.out HX10.out) HG1x0.out _ _)
   have HZ10_1w7 := hJ (show RN x16 s18 A18 n18 c18 (mkP x17 1) by rw [← HE16.out]; exact RNo.sto HZ10_1.out HQ1x0w6.out rfl _ _)
   have HZ10_2w7 := hJ (show RN x16 t18 B18 m18 d18 (mkQ x17 1) by rw [← HE16.out]; exact RNo.sto HZ10_2.out HQ1x0w6.out rfl _ _)
   go_wp2
   clear cl12 cl13 cl14 cl15 fz16_0 fc16_0 fz16_1 fc16_1 fz16_2 fc16_2 fz16_3 fc16_3 hx16
   exact bodyPost_ret (results_cell_row rfl _ _ _ _ _ _ _ rfl HQ16s.out Tryz.underlying41 rfl (by kernel_rfl)) rfl ⟨mkP x17 1, mkQ x17 1, s18, A18, n18, c18, t18, B18, m18, d18, rfl, HZ10_1w7.out, HZ10_2w7.out, ⟨fr_mk (num_lim2 HNM17.out) (i64_lim (x := 1) (by decide)), mk_b2 (k := 2000) HNM17.out one_b2⟩, HC0_7.out⟩
  have J4_2_6_7_9 : ∀ (x15 : Int) (x16 : Int) (x17 : Int) (s17 : Bool) (A17 : Option Addr) (n17 : Nat) (c17 : Nat) (s18 : Bool) (A18 : Option Addr) (n18 : Nat) (c18 : Nat) (t18 : Bool) (B18 : Option Addr) (m18 : Nat) (d18 : Nat) (v : World), Hid (Below x8.heap.size x8 v) → Hid ((Lit.int .i64 x15).wf = true) → Hid ((Lit.int .i64 x16).wf = true) → Hid (RN v s17 A17 n17 c17 x17) → Hid (x17.natAbs < B2 2000) → Hid (RN v s18 A18 n18 c18 (mkP x17 1)) → Hid (RN v t18 B18 m18 d18 (mkQ x17 1)) → F 3 (Array.setIfInBounds (Array.setIfInBounds (Array.setIfInBounds (Array.setIfInBounds (Array.setIfInBounds (Array.setIfInBounds (Array.setIfInBounds L0 2 true) 6 true) 7 true) 9 true) 10 true) 11 true) 12 true) (Act.put (Act.put (Act.put (Act.put (Act.put (Act.put (Act.put a0 (some 25) (.int .i64 x15)) (some 29) (.int .i64 x16)) (some 30) (.agg #[.bool s17, .slice A17 n17 c17])) (some 32) (.tuple #[.agg #[.bool s18, .slice A18 n18 c18, .bool t18, .slice B18 m18 d18], .int .i64 (mkC 1)])) (some 22) (.tuple #[.agg #[.bool s18, .slice A18 n18 c18, .bool t18, .slice B18 m18 d18], .int .i64 (mkC 1)])) (some 33) (.agg #[.bool s18, .slice A18 n18 c18, .bool t18, .slice B18 m18 d18])) (some 34) (.int .i64 (mkC 1))) v := by
   intro x15 x16 x17 s17 A17 n17 c17 s18 A18 n18 c18 t18 B18 m18 d18 v HXj HWF15 HWF16 HZ7hr17j HNM17 HZ9hr18j HZ9hs18j
   subst hF ha0 hL0
   simp only [PT] at J4_2_6_7_9_13 ⊢
   have hHeld := HS9.out _ HXj.out
   refine wpAnyH_ready (rs := [13]) (by kernel_rfl) (by simp) ?_
   refine .cons rfl (fun K hK => ?_) .nil
   go_simp
   have HB17 := hJ ((Below.refl v.heap.size v).alloc (Nat.le_refl _) (.cells #[.bool false, .slice none 0 0, .bool false, .slice none 0 0] 41))
   have HP17 := hJ (BX.lit v 41 #[.bool false, .slice none 0 0, .bool false, .slice none 0 0])
   obtain ⟨v17, hV⟩ := nmz (World.alloc v (.cells #[.bool false, .slice none 0 0, .bool false, .slice none 0 0] 41))
   obtain ⟨g4_13, hg⟩ := nmz (v.heap.size)
   rw [hV] at HB17 HP17 ⊢
   rw [hg] at HP17 ⊢
   have HG17 := hJ (show x8.heap.size ≤ g4_13 by rw [← hg]; exact HXj.out.size)
   clear hV hg
   have HX17 := hJ (bt HXj.out HB17.out)
   have HZ17_0 := hJ (RNo.new HZ7hr17j.out HB17.out)
   have HZ17_1 := hJ (RNo.new HZ9hr18j.out HB17.out)
   have HZ17_2 := hJ (RNo.new HZ9hs18j.out HB17.out)
   clear hHeld
   refine hK.out _ _ (HS9.out _ HX17.out) (fun hHeld => ?_)
   clear hK K
   try simp only [PT]
   exact wpAnyH_cast (by kernel_rfl) (J4_2_6_7_9_13 x15 x16 x17 s17 A17 n17 c17 s18 A18 n18 c18 t18 B18 m18 d18 g4_13 v17 HX17 HWF15 HWF16 HZ17_0 HNM17 HZ17_1 HZ17_2 HP17 HG17)
  have J4_2_6_7_13 : ∀ (x15 : Int) (x16 : Int) (x17 : Int) (s17 : Bool) (A17 : Option Addr) (n17 : Nat) (c17 : Nat) (g4_13 : Nat) (v : World), Hid (Below x8.heap.size x8 v) → Hid ((Lit.int .i64 x15).wf = true) → Hid ((Lit.int .i64 x16).wf = true) → Hid (RN v s17 A17 n17 c17 x17) → Hid (x17.natAbs < B2 2000) → Hid (BX 41 v g4_13 #[.bool false, .slice none 0 0, .bool false, .slice none 0 0]) → Hid (x8.heap.size ≤ g4_13) → F 6 (Array.setIfInBounds (Array.setIfInBounds (Array.setIfInBounds (Array.setIfInBounds L0 2 true) 6 true) 7 true) 13 true) (Act.put (Act.put (Act.put (Act.put a0 (some 25) (.int .i64 x15)) (some 29) (.int .i64 x16)) (some 30) (.agg #[.bool s17, .slice A17 n17 c17])) (some 6) (.pointer (some ⟨g4_13, 0, none⟩))) v := by
   intro x15 x16 x17 s17 A17 n17 c17 g4_13 v HXj HWF15 HWF16 HZ7hr17j HNM17 HPg4_13j HGg4_13j
   subst hF ha0 hL0
   simp only [PT] at J4_2_6_7_9_13 ⊢
   have hHeld := HS9.out _ HXj.out
   refine wpAnyH_ready (rs := [9]) (by kernel_rfl) (by simp) ?_
   refine .cons rfl (fun K hK => ?_) .nil
   go_simp
   go_at_call 24
   refine (r4make_any x17 1 (32 * limE) s17 A17 n17 c17 s14 A14 n14 c14 v HZ7hr17j.out (RNo.new HR7hr14w5.out HXj.out) (by decide) (lim_b2 (num_lim2 HNM17.out)) (lim_b2 (i64_lim (x := 1) (by decide)))).mono ?_
   rintro e v18 ⟨s18, A18, n18, c18, t18, B18, m18, d18, rfl, hr18, hs18, hb⟩
   have HB18 := hJ hb
   have HR18hr18 := hJ hr18
   have HR18hs18 := hJ hs18
   clear hb hr18 hs18
   go_wp2_with fail
   have HX18 := hJ (bt HXj.out HB18.out)
   have HZ18_0 := hJ (RNo.new HZ7hr17j.out HB18.out)
   have HP18g4_13 := hJ (BX.new HPg4_13j.out HB18.out)
   clear hHeld
   refine hK.out _ _ (HS9.out _ HX18.out) (fun hHeld => ?_)
   clear hK K
   try simp only [PT]
   refine tq 10 ?_
   try simp only [PT]
   refine tq 11 ?_
   try simp only [PT]
   refine tq 12 ?_
   try simp only [PT]
   exact wpAnyH_cast (by kernel_rfl) (J4_2_6_7_9_13 x15 x16 x17 s17 A17 n17 c17 s18 A18 n18 c18 t18 B18 m18 d18 g4_13 v18 HX18 HWF15 HWF16 HZ18_0 HNM17 HR18hr18 HR18hs18 HP18g4_13 HGg4_13j)
  have J4_2_6_7 : ∀ (x15 : Int) (x16 : Int) (x17 : Int) (s17 : Bool) (A17 : Option Addr) (n17 : Nat) (c17 : Nat) (v : World), Hid (Below x8.heap.size x8 v) → Hid ((Lit.int .i64 x15).wf = true) → Hid ((Lit.int .i64 x16).wf = true) → Hid (RN v s17 A17 n17 c17 x17) → Hid (x17.natAbs < B2 2000) → F 7 (Array.setIfInBounds (Array.setIfInBounds (Array.setIfInBounds L0 2 true) 6 true) 7 true) (Act.put (Act.put (Act.put a0 (some 25) (.int .i64 x15)) (some 29) (.int .i64 x16)) (some 30) (.agg #[.bool s17, .slice A17 n17 c17])) v := by
   intro x15 x16 x17 s17 A17 n17 c17 v HXj HWF15 HWF16 HZ7hr17j HNM17
   subst hF ha0 hL0
   simp only [PT] at J4_2_6_7_9 J4_2_6_7_13 ⊢
   have hHeld := HS9.out _ HXj.out
   refine wpAnyH_ready (rs := [9, 13]) (by kernel_rfl) (by simp) ?_
   refine .cons rfl (fun K hK => ?_) ?_
   go_simp
   go_at_call 24
   refine (r4make_any x17 1 (32 * limE) s17 A17 n17 c17 s14 A14 n14 c14 v HZ7hr17j.out (RNo.new HR7hr14w5.out HXj.out) (by decide) (lim_b2 (num_lim2 HNM17.out)) (lim_b2 (i64_lim (x := 1) (by decide)))).mono ?_
   rintro e v19 ⟨s18, A18, n18, c18, t18, B18, m18, d18, rfl, hr18, hs18, hb⟩
   have HB19 := hJ hb
   have HR19hr18 := hJ hr18
   have HR19hs18 := hJ hs18
   clear hb hr18 hs18
   go_wp2_with fail
   have HX19 := hJ (bt HXj.out HB19.out)
   have HZ19_0 := hJ (RNo.new HZ7hr17j.out HB19.out)
   clear hHeld
   refine hK.out _ _ (HS9.out _ HX19.out) (fun hHeld => ?_)
   clear hK K
   try simp only [PT]
   refine tq 10 ?_
   try simp only [PT]
   refine tq 11 ?_
   try simp only [PT]
   refine tq 12 ?_
   try simp only [PT]
   exact wpAnyH_cast (by kernel_rfl) (J4_2_6_7_9 x15 x16 x17 s17 A17 n17 c17 s18 A18 n18 c18 t18 B18 m18 d18 v19 HX19 HWF15 HWF16 HZ19_0 HNM17 HR19hr18 HR19hs18)
   refine .cons rfl (fun K hK => ?_) .nil
   go_simp
   have HB20 := hJ ((Below.refl v.heap.size v).alloc (Nat.le_refl _) (.cells #[.bool false, .slice none 0 0, .bool false, .slice none 0 0] 41))
   have HP20 := hJ (BX.lit v 41 #[.bool false, .slice none 0 0, .bool false, .slice none 0 0])
   obtain ⟨v20, hV⟩ := nmz (World.alloc v (.cells #[.bool false, .slice none 0 0, .bool false, .slice none 0 0] 41))
   obtain ⟨g4_13, hg⟩ := nmz (v.heap.size)
   rw [hV] at HB20 HP20 ⊢
   rw [hg] at HP20 ⊢
   have HG20 := hJ (show x8.heap.size ≤ g4_13 by rw [← hg]; exact HXj.out.size)
   clear hV hg
   have HX20 := hJ (bt HXj.out HB20.out)
   have HZ20_0 := hJ (RNo.new HZ7hr17j.out HB20.out)
   clear hHeld
   refine hK.out _ _ (HS9.out _ HX20.out) (fun hHeld => ?_)
   clear hK K
   try simp only [PT]
   exact wpAnyH_cast (by kernel_rfl) (J4_2_6_7_13 x15 x16 x17 s17 A17 n17 c17 g4_13 v20 HX20 HWF15 HWF16 HZ20_0 HNM17 HP20 HG20)
  have J4_2_6_13 : ∀ (x15 : Int) (x16 : Int) (g4_13 : Nat) (v : World), Hid (Below x8.heap.size x8 v) → Hid ((Lit.int .i64 x15).wf = true) → Hid ((Lit.int .i64 x16).wf = true) → Hid (BX 41 v g4_13 #[.bool false, .slice none 0 0, .bool false, .slice none 0 0]) → Hid (x8.heap.size ≤ g4_13) → F 7 (Array.setIfInBounds (Array.setIfInBounds (Array.setIfInBounds L0 2 true) 6 true) 13 true) (Act.put (Act.put (Act.put a0 (some 25) (.int .i64 x15)) (some 29) (.int .i64 x16)) (some 6) (.pointer (some ⟨g4_13, 0, none⟩))) v := by
   intro x15 x16 g4_13 v HXj HWF15 HWF16 HPg4_13j HGg4_13j
   subst hF ha0 hL0
   simp only [PT] at J4_2_6_7_13 ⊢
   have hHeld := HS9.out _ HXj.out
   refine wpAnyH_ready (rs := [7]) (by kernel_rfl) (by simp) ?_
   refine .cons rfl (fun K hK => ?_) .nil
   go_simp
   go_at_call 16
   refine (r4number_any x15 x16 v HWF15.out HWF16.out).mono ?_
   rintro e v21 ⟨x17, s17, A17, n17, c17, rfl, hr17, hx17, hb⟩
   have HB21 := hJ hb
   have HR21hr17 := hJ hr17
   clear hb hr17
   have HNM17 := hJ hx17
   clear hx17
   go_wp2_with fail
   have HX21 := hJ (bt HXj.out HB21.out)
   have HP21g4_13 := hJ (BX.new HPg4_13j.out HB21.out)
   clear hHeld
   refine hK.out _ _ (HS9.out _ HX21.out) (fun hHeld => ?_)
   clear hK K
   try simp only [PT]
   exact wpAnyH_cast (by kernel_rfl) (J4_2_6_7_13 x15 x16 x17 s17 A17 n17 c17 g4_13 v21 HX21 HWF15 HWF16 HR21hr17 HNM17 HP21g4_13 HGg4_13j)
  have J4_2_6 : ∀ (x15 : Int) (x16 : Int) (v : World), Hid (Below x8.heap.size x8 v) → Hid ((Lit.int .i64 x15).wf = true) → Hid ((Lit.int .i64 x16).wf = true) → F 8 (Array.setIfInBounds (Array.setIfInBounds L0 2 true) 6 true) (Act.put (Act.put a0 (some 25) (.int .i64 x15)) (some 29) (.int .i64 x16)) v := by
   intro x15 x16 v HXj HWF15 HWF16
   subst hF ha0 hL0
   simp only [PT] at J4_2_6_7 J4_2_6_13 ⊢
   have hHeld := HS9.out _ HXj.out
   refine wpAnyH_ready (rs := [7, 13]) (by kernel_rfl) (by simp) ?_
   refine .cons rfl (fun K hK => ?_) ?_
   go_simp
   go_at_call 16
   refine (r4number_any x15 x16 v HWF15.out HWF16.out).mono ?_
   rintro e v22 ⟨x17, s17, A17, n17, c17, rfl, hr17, hx17, hb⟩
   have HB22 := hJ hb
   have HR22hr17 := hJ hr17
   clear hb hr17
   have HNM17 := hJ hx17
   clear hx17
   go_wp2_with fail
   have HX22 := hJ (bt HXj.out HB22.out)
   clear hHeld
   refine hK.out _ _ (HS9.out _ HX22.out) (fun hHeld => ?_)
   clear hK K
   try simp only [PT]
   exact wpAnyH_cast (by kernel_rfl) (J4_2_6_7 x15 x16 x17 s17 A17 n17 c17 v22 HX22 HWF15 HWF16 HR22hr17 HNM17)
   refine .cons rfl (fun K hK => ?_) .nil
   go_simp
   have HB23 := hJ ((Below.refl v.heap.size v).alloc (Nat.le_refl _) (.cells #[.bool false, .slice none 0 0, .bool false, .slice none 0 0] 41))
   have HP23 := hJ (BX.lit v 41 #[.bool false, .slice none 0 0, .bool false, .slice none 0 0])
   obtain ⟨v23, hV⟩ := nmz (World.alloc v (.cells #[.bool false, .slice none 0 0, .bool false, .slice none 0 0] 41))
   obtain ⟨g4_13, hg⟩ := nmz (v.heap.size)
   rw [hV] at HB23 HP23 ⊢
   rw [hg] at HP23 ⊢
   have HG23 := hJ (show x8.heap.size ≤ g4_13 by rw [← hg]; exact HXj.out.size)
   clear hV hg
   have HX23 := hJ (bt HXj.out HB23.out)
   clear hHeld
   refine hK.out _ _ (HS9.out _ HX23.out) (fun hHeld => ?_)
   clear hK K
   try simp only [PT]
   exact wpAnyH_cast (by kernel_rfl) (J4_2_6_13 x15 x16 g4_13 v23 HX23 HWF15 HWF16 HP23 HG23)
  have J4_2_13 : ∀ (x15 : Int) (g4_13 : Nat) (v : World), Hid (Below x8.heap.size x8 v) → Hid ((Lit.int .i64 x15).wf = true) → Hid (BX 41 v g4_13 #[.bool false, .slice none 0 0, .bool false, .slice none 0 0]) → Hid (x8.heap.size ≤ g4_13) → F 8 (Array.setIfInBounds (Array.setIfInBounds L0 2 true) 13 true) (Act.put (Act.put a0 (some 25) (.int .i64 x15)) (some 6) (.pointer (some ⟨g4_13, 0, none⟩))) v := by
   intro x15 g4_13 v HXj HWF15 HPg4_13j HGg4_13j
   subst hF ha0 hL0
   simp only [PT] at J4_2_6_13 ⊢
   have hHeld := HS9.out _ HXj.out
   refine wpAnyH_ready (rs := [6]) (by kernel_rfl) (by simp) ?_
   refine .cons rfl (fun K hK => ?_) .nil
   go_simp
   go_at_call 17
   refine (r4pick_any A ln c xs ((z + 1)) v (Got.new HGw5.out HXj.out) (by omega) (by omega)).mono ?_
   rintro e v24 ⟨x16, rfl, hx16, rfl⟩
   have HWF16 := hJ hx16
   clear hx16
   go_wp2_with fail
   clear hHeld
   refine hK.out _ _ (HS9.out _ HXj.out) (fun hHeld => ?_)
   clear hK K
   try simp only [PT]
   exact wpAnyH_cast (by kernel_rfl) (J4_2_6_13 x15 x16 g4_13 v HXj HWF15 HWF16 HPg4_13j HGg4_13j)
  have J4_2 : ∀ (x15 : Int) (v : World), Hid (Below x8.heap.size x8 v) → Hid ((Lit.int .i64 x15).wf = true) → F 9 (Array.setIfInBounds L0 2 true) (Act.put a0 (some 25) (.int .i64 x15)) v := by
   intro x15 v HXj HWF15
   subst hF ha0 hL0
   simp only [PT] at J4_2_6 J4_2_13 ⊢
   have hHeld := HS9.out _ HXj.out
   refine wpAnyH_ready (rs := [6, 13]) (by kernel_rfl) (by simp) ?_
   refine .cons rfl (fun K hK => ?_) ?_
   go_simp
   go_at_call 17
   refine (r4pick_any A ln c xs ((z + 1)) v (Got.new HGw5.out HXj.out) (by omega) (by omega)).mono ?_
   rintro e v25 ⟨x16, rfl, hx16, rfl⟩
   have HWF16 := hJ hx16
   clear hx16
   go_wp2_with fail
   clear hHeld
   refine hK.out _ _ (HS9.out _ HXj.out) (fun hHeld => ?_)
   clear hK K
   try simp only [PT]
   exact wpAnyH_cast (by kernel_rfl) (J4_2_6 x15 x16 v HXj HWF15 HWF16)
   refine .cons rfl (fun K hK => ?_) .nil
   go_simp
   have HB26 := hJ ((Below.refl v.heap.size v).alloc (Nat.le_refl _) (.cells #[.bool false, .slice none 0 0, .bool false, .slice none 0 0] 41))
   have HP26 := hJ (BX.lit v 41 #[.bool false, .slice none 0 0, .bool false, .slice none 0 0])
   obtain ⟨v26, hV⟩ := nmz (World.alloc v (.cells #[.bool false, .slice none 0 0, .bool false, .slice none 0 0] 41))
   obtain ⟨g4_13, hg⟩ := nmz (v.heap.size)
   rw [hV] at HB26 HP26 ⊢
   rw [hg] at HP26 ⊢
   have HG26 := hJ (show x8.heap.size ≤ g4_13 by rw [← hg]; exact HXj.out.size)
   clear hV hg
   have HX26 := hJ (bt HXj.out HB26.out)
   clear hHeld
   refine hK.out _ _ (HS9.out _ HX26.out) (fun hHeld => ?_)
   clear hK K
   try simp only [PT]
   exact wpAnyH_cast (by kernel_rfl) (J4_2_13 x15 g4_13 v26 HX26 HWF15 HP26 HG26)
  have J4_13 : ∀ (g4_13 : Nat) (v : World), Hid (Below x8.heap.size x8 v) → Hid (BX 41 v g4_13 #[.bool false, .slice none 0 0, .bool false, .slice none 0 0]) → Hid (x8.heap.size ≤ g4_13) → F 9 (Array.setIfInBounds L0 13 true) (Act.put a0 (some 6) (.pointer (some ⟨g4_13, 0, none⟩))) v := by
   intro g4_13 v HXj HPg4_13j HGg4_13j
   subst hF ha0 hL0
   simp only [PT] at J4_2_13 ⊢
   have hHeld := HS9.out _ HXj.out
   refine wpAnyH_ready (rs := [2]) (by kernel_rfl) (by simp) ?_
   refine .cons rfl (fun K hK => ?_) .nil
   go_simp
   go_at_call 17
   refine (r4pick_any A ln c xs z v (Got.new HGw5.out HXj.out) (by omega) (by omega)).mono ?_
   rintro e v27 ⟨x15, rfl, hx15, rfl⟩
   have HWF15 := hJ hx15
   clear hx15
   go_wp2_with fail
   clear hHeld
   refine hK.out _ _ (HS9.out _ HXj.out) (fun hHeld => ?_)
   clear hK K
   try simp only [PT]
   exact wpAnyH_cast (by kernel_rfl) (J4_2_13 x15 g4_13 v HXj HWF15 HPg4_13j HGg4_13j)
  subst hF ha0 hL0
  simp only [PT] at J4_2 J4_13
  refine wpAnyH_ready (rs := [2, 13]) (by kernel_rfl) (by simp) ?_
  refine .cons rfl (fun K hK => ?_) ?_
  go_simp
  go_at_call 17
  refine (r4pick_any A ln c xs z v9 (Got.new HGw5.out HX9.out) (by omega) (by omega)).mono ?_
  rintro e v28 ⟨x15, rfl, hx15, rfl⟩
  have HWF15 := hJ hx15
  clear hx15
  go_wp2_with fail
  clear hHeld
  refine hK.out _ _ (HS9.out _ HX9.out) (fun hHeld => ?_)
  clear hK K
  try simp only [PT]
  exact wpAnyH_cast (by kernel_rfl) (J4_2 x15 v9 HX9 HWF15)
  refine .cons rfl (fun K hK => ?_) .nil
  go_simp
  have HB29 := hJ ((Below.refl v9.heap.size v9).alloc (Nat.le_refl _) (.cells #[.bool false, .slice none 0 0, .bool false, .slice none 0 0] 41))
  have HP29 := hJ (BX.lit v9 41 #[.bool false, .slice none 0 0, .bool false, .slice none 0 0])
  obtain ⟨v29, hV⟩ := nmz (World.alloc v9 (.cells #[.bool false, .slice none 0 0, .bool false, .slice none 0 0] 41))
  obtain ⟨g4_13, hg⟩ := nmz (v9.heap.size)
  rw [hV] at HB29 HP29 ⊢
  rw [hg] at HP29 ⊢
  have HG29 := hJ (show x8.heap.size ≤ g4_13 by rw [← hg]; exact HX9.out.size)
  clear hV hg
  have HX29 := hJ (bt HX9.out HB29.out)
  clear hHeld
  refine hK.out _ _ (HS9.out _ HX29.out) (fun hHeld => ?_)
  clear hK K
  try simp only [PT]
  exact wpAnyH_cast (by kernel_rfl) (J4_13 g4_13 v29 HX29 HP29 HG29)
 ·have hn0 : (((n13 : Nat) : Int) == 0) = false := by have hq := rn_pos HR4hr13.out h0; simp; omega
  clear h0
  obtain ⟨x30, hx30⟩ := nmz (w4.alloc (.cells #[.bool s13, .slice A13 n13 c13] 24))
  have HB30 := hJ (show Below w4.heap.size w4 x30 by rw [← hx30]; exact ((Below.refl _ _).alloc (Nat.le_refl _) _))
  have HQ30x0 := hJ (show BX 24 x30 w4.heap.size #[.bool s13, .slice A13 n13 c13] by rw [← hx30]; exact (BX.at rfl))
  have HG30x0 := hJ (show w4.heap.size ≤ w4.heap.size by omega)
  have HL30x0 := hJ (show w4.heap.size < x30.heap.size from HQ30x0.out.lt)
  have cl31 := HQ30x0.out.cell 1 rfl
  have HS32 : Hid (∀ w', Below x30.heap.size x30 w' → (fun w' : World => w'.cell? ⟨w4.heap.size, 0, none⟩ = some (.bool s13) ∧ w'.cell? ⟨w4.heap.size, 1, none⟩ = some (.slice A13 n13 c13) ∧ Below x30.heap.size x30 w') w') := hJ (fun w' hb => ⟨(BX.new HQ30x0.out hb).cell 0 rfl, (BX.new HQ30x0.out hb).cell 1 rfl, hb⟩)
  have HC1_3 := hJ (bt HB4.out HB30.out)
  have HGw3 := hJ (Got.new HGw1.out HC1_3.out)
  have HR4hr13w3 := hJ (RNo.new HR4hr13.out HB30.out)
  go_wp2_with fail
  clear hn0 hx30 cl31
  obtain ⟨v32, hv32⟩ := nmz (World.drew x30)
  have HX32 := hJ (show Below x30.heap.size x30 v32 by rw [← hv32]; exact (Below.refl _ _).drew)
  refine wp_region_held_drew (S := (fun w' : World => w'.cell? ⟨w4.heap.size, 0, none⟩ = some (.bool s13) ∧ w'.cell? ⟨w4.heap.size, 1, none⟩ = some (.slice A13 n13 c13) ∧ Below x30.heap.size x30 w')) (by kernel_rfl) ?_ (fun hHeld => ?_)
  ·rw [hv32]
   exact HS32.out _ HX32.out
  rw [hv32] at hHeld ⊢
  clear hv32
  refine tq 0 ?_
  try simp only [PT]
  refine tq 1 ?_
  try simp only [PT]
  refine tq 3 ?_
  try simp only [PT]
  refine tq 4 ?_
  try simp only [PT]
  refine tk 5 (.int .i64 (z + 1)) ?_ ?_
  ·intro w hSw
   (try dsimp only at hSw)
   go_simp
   first | exact HW1.out | (rw [HW1.out])
  try simp only [PT]
  refine tq 8 ?_
  try simp only [PT]
  refine wpAnyH_name (fun F hF a0 ha0 L0 hL0 => ?_)
  have J4_2_6_7_9_13 : ∀ (x19 : Int) (x20 : Int) (x21 : Int) (s21 : Bool) (A21 : Option Addr) (n21 : Nat) (c21 : Nat) (s22 : Bool) (A22 : Option Addr) (n22 : Nat) (c22 : Nat) (t22 : Bool) (B22 : Option Addr) (m22 : Nat) (d22 : Nat) (g4_13 : Nat) (v : World), Hid (Below x30.heap.size x30 v) → Hid ((Lit.int .i64 x19).wf = true) → Hid ((Lit.int .i64 x20).wf = true) → Hid (RN v s21 A21 n21 c21 x21) → Hid (x21.natAbs < B2 2000) → Hid (RN v s22 A22 n22 c22 (mkP x21 x13)) → Hid (RN v t22 B22 m22 d22 (mkQ x21 x13)) → Hid (BX 41 v g4_13 #[.bool false, .slice none 0 0, .bool false, .slice none 0 0]) → Hid (x30.heap.size ≤ g4_13) → F 2 (Array.setIfInBounds (Array.setIfInBounds (Array.setIfInBounds (Array.setIfInBounds (Array.setIfInBounds (Array.setIfInBounds (Array.setIfInBounds (Array.setIfInBounds L0 2 true) 6 true) 7 true) 9 true) 13 true) 10 true) 11 true) 12 true) (Act.put (Act.put (Act.put (Act.put (Act.put (Act.put (Act.put (Act.put a0 (some 25) (.int .i64 x19)) (some 29) (.int .i64 x20)) (some 30) (.agg #[.bool s21, .slice A21 n21 c21])) (some 32) (.tuple #[.agg #[.bool s22, .slice A22 n22 c22, .bool t22, .slice B22 m22 d22], .int .i64 (mkC x13)])) (some 6) (.pointer (some ⟨g4_13, 0, none⟩))) (some 22) (.tuple #[.agg #[.bool s22, .slice A22 n22 c22, .bool t22, .slice B22 m22 d22], .int .i64 (mkC x13)])) (some 33) (.agg #[.bool s22, .slice A22 n22 c22, .bool t22, .slice B22 m22 d22])) (some 34) (.int .i64 (mkC x13))) v := by
   intro x19 x20 x21 s21 A21 n21 c21 s22 A22 n22 c22 t22 B22 m22 d22 g4_13 v HXj HWF19 HWF20 HZ7hr21j HNM21 HZ9hr22j HZ9hs22j HPg4_13j HGg4_13j
   subst hF ha0 hL0
   simp only [PT] at  ⊢
   have hHeld := HS32.out _ HXj.out
   refine wpAnyH_ready (rs := [14]) (by kernel_rfl) (by simp) ?_
   refine .cons rfl (fun K hK => ?_) .nil
   have z33_0 := HPg4_13j.out.cell 0 rfl
   have y33_0 := HPg4_13j.out.frozen 0
   have z33_1 := HPg4_13j.out.cell 1 rfl
   have y33_1 := HPg4_13j.out.frozen 1
   have z33_2 := HPg4_13j.out.cell 2 rfl
   have y33_2 := HPg4_13j.out.frozen 2
   have z33_3 := HPg4_13j.out.cell 3 rfl
   have y33_3 := HPg4_13j.out.frozen 3
   have z33 := HPg4_13j.out.lt
   go_simp
   obtain ⟨v33, hV⟩ := nmz (World.setCell (World.setCell (World.setCell (World.setCell v ⟨g4_13, 0, none⟩ (.bool s22)) ⟨g4_13, 1, none⟩ (.slice A22 n22 c22)) ⟨g4_13, 2, none⟩ (.bool t22)) ⟨g4_13, 3, none⟩ (.slice B22 m22 d22))
   rw [hV]
   have HE33 := hJ (show sto v g4_13 0 [.bool s22, .slice A22 n22 c22, .bool t22, .slice B22 m22 d22] = v33 from hV)
   clear hV z33 z33_0 y33_0 z33_1 y33_1 z33_2 y33_2 z33_3 y33_3
   have HX33 := hJ (show Below x30.heap.size x30 v33 by rw [← HE33.out]; exact below_sto HXj.out HGg4_13j.out _ _)
   have HZ33_0 := hJ (show RN v33 s21 A21 n21 c21 x21 by rw [← HE33.out]; exact RNo.sto HZ7hr21j.out HPg4_13j.out rfl _ _)
   have HZ33_1 := hJ (show RN v33 s22 A22 n22 c22 (mkP x21 x13) by rw [← HE33.out]; exact RNo.sto HZ9hr22j.out HPg4_13j.out rfl _ _)
   have HZ33_2 := hJ (show RN v33 t22 B22 m22 d22 (mkQ x21 x13) by rw [← HE33.out]; exact RNo.sto HZ9hs22j.out HPg4_13j.out rfl _ _)
   have HP33g4_13 := hJ (show BX 41 v33 g4_13 #[.bool s22, .slice A22 n22 c22, .bool t22, .slice B22 m22 d22] by rw [← HE33.out]; exact BX.put HPg4_13j.out _ _)
   clear hHeld
   refine hK.out _ _ (HS32.out _ HX33.out) (fun hHeld => ?_)
   clear hK K
   try simp only [PT]
   refine tq 15 ?_
   try simp only [PT]
   refine wpAnyH_done (by kernel_rfl) ?_ _
   clear hHeld
   have HL34 := hJ (show g4_13 < v33.heap.size from HP33g4_13.out.lt)
   obtain ⟨cl35, cl36, cl37, cl38⟩ := HP33g4_13.out.c4 0 1 2 3 rfl rfl rfl rfl
   have HC1_4 := hJ (bt HC1_3.out HX33.out)
   have HQ1x0w4 := hJ (BX.new HQ1x0.out HC1_4.out)
   have fz39_0 := HQ1x0w4.out.frozen 0
   have fc39_0 := HQ1x0w4.out.cell 0 rfl
   have fz39_1 := HQ1x0w4.out.frozen 1
   have fc39_1 := HQ1x0w4.out.cell 1 rfl
   have fz39_2 := HQ1x0w4.out.frozen 2
   have fc39_2 := HQ1x0w4.out.cell 2 rfl
   have fz39_3 := HQ1x0w4.out.frozen 3
   have fc39_3 := HQ1x0w4.out.cell 3 rfl
   obtain ⟨x39, hx39⟩ := nmz (World.setCell (World.setCell (World.setCell (World.setCell v33 ⟨w.heap.size, 0, none⟩ (.bool s22)) ⟨w.heap.size, 1, none⟩ (.slice A22 n22 c22)) ⟨w.heap.size, 2, none⟩ (.bool t22)) ⟨w.heap.size, 3, none⟩ (.slice B22 m22 d22))
   have HE39 := hJ (show sto v33 w.heap.size 0 [.bool s22, .slice A22 n22 c22, .bool t22, .slice B22 m22 d22] = x39 from hx39)
   have HQ39s := hJ (show BX 41 x39 w.heap.size #[.bool s22, .slice A22 n22 c22, .bool t22, .slice B22 m22 d22] by rw [← HE39.out]; exact BX.put HQ1x0w4.out _ _)
   have HC0_5 := hJ (show Below w.heap.size w x39 by rw [← HE39.out]; exact below_sto (bt (bt (bt HB1.out HB4.out) HB30.out) HX33.out) HG1x0.out _ _)
   have HZ33_1w5 := hJ (show RN x39 s22 A22 n22 c22 (mkP x21 x13) by rw [← HE39.out]; exact RNo.sto HZ33_1.out HQ1x0w4.out rfl _ _)
   have HZ33_2w5 := hJ (show RN x39 t22 B22 m22 d22 (mkQ x21 x13) by rw [← HE39.out]; exact RNo.sto HZ33_2.out HQ1x0w4.out rfl _ _)
   go_wp2
   clear cl35 cl36 cl37 cl38 fz39_0 fc39_0 fz39_1 fc39_1 fz39_2 fc39_2 fz39_3 fc39_3 hx39
   exact bodyPost_ret (results_cell_row rfl _ _ _ _ _ _ _ rfl HQ39s.out Tryz.underlying41 rfl (by kernel_rfl)) rfl ⟨mkP x21 x13, mkQ x21 x13, s22, A22, n22, c22, t22, B22, m22, d22, rfl, HZ33_1w5.out, HZ33_2w5.out, ⟨fr_mk (num_lim2 HNM21.out) (num_lim2 HNM13.out), mk_b2 (k := 2000) HNM21.out HNM13.out⟩, HC0_5.out⟩
  have J4_2_6_7_9 : ∀ (x19 : Int) (x20 : Int) (x21 : Int) (s21 : Bool) (A21 : Option Addr) (n21 : Nat) (c21 : Nat) (s22 : Bool) (A22 : Option Addr) (n22 : Nat) (c22 : Nat) (t22 : Bool) (B22 : Option Addr) (m22 : Nat) (d22 : Nat) (v : World), Hid (Below x30.heap.size x30 v) → Hid ((Lit.int .i64 x19).wf = true) → Hid ((Lit.int .i64 x20).wf = true) → Hid (RN v s21 A21 n21 c21 x21) → Hid (x21.natAbs < B2 2000) → Hid (RN v s22 A22 n22 c22 (mkP x21 x13)) → Hid (RN v t22 B22 m22 d22 (mkQ x21 x13)) → F 3 (Array.setIfInBounds (Array.setIfInBounds (Array.setIfInBounds (Array.setIfInBounds (Array.setIfInBounds (Array.setIfInBounds (Array.setIfInBounds L0 2 true) 6 true) 7 true) 9 true) 10 true) 11 true) 12 true) (Act.put (Act.put (Act.put (Act.put (Act.put (Act.put (Act.put a0 (some 25) (.int .i64 x19)) (some 29) (.int .i64 x20)) (some 30) (.agg #[.bool s21, .slice A21 n21 c21])) (some 32) (.tuple #[.agg #[.bool s22, .slice A22 n22 c22, .bool t22, .slice B22 m22 d22], .int .i64 (mkC x13)])) (some 22) (.tuple #[.agg #[.bool s22, .slice A22 n22 c22, .bool t22, .slice B22 m22 d22], .int .i64 (mkC x13)])) (some 33) (.agg #[.bool s22, .slice A22 n22 c22, .bool t22, .slice B22 m22 d22])) (some 34) (.int .i64 (mkC x13))) v := by
   intro x19 x20 x21 s21 A21 n21 c21 s22 A22 n22 c22 t22 B22 m22 d22 v HXj HWF19 HWF20 HZ7hr21j HNM21 HZ9hr22j HZ9hs22j
   subst hF ha0 hL0
   simp only [PT] at J4_2_6_7_9_13 ⊢
   have hHeld := HS32.out _ HXj.out
   refine wpAnyH_ready (rs := [13]) (by kernel_rfl) (by simp) ?_
   refine .cons rfl (fun K hK => ?_) .nil
   go_simp
   have HB40 := hJ ((Below.refl v.heap.size v).alloc (Nat.le_refl _) (.cells #[.bool false, .slice none 0 0, .bool false, .slice none 0 0] 41))
   have HP40 := hJ (BX.lit v 41 #[.bool false, .slice none 0 0, .bool false, .slice none 0 0])
   obtain ⟨v40, hV⟩ := nmz (World.alloc v (.cells #[.bool false, .slice none 0 0, .bool false, .slice none 0 0] 41))
   obtain ⟨g4_13, hg⟩ := nmz (v.heap.size)
   rw [hV] at HB40 HP40 ⊢
   rw [hg] at HP40 ⊢
   have HG40 := hJ (show x30.heap.size ≤ g4_13 by rw [← hg]; exact HXj.out.size)
   clear hV hg
   have HX40 := hJ (bt HXj.out HB40.out)
   have HZ40_0 := hJ (RNo.new HZ7hr21j.out HB40.out)
   have HZ40_1 := hJ (RNo.new HZ9hr22j.out HB40.out)
   have HZ40_2 := hJ (RNo.new HZ9hs22j.out HB40.out)
   clear hHeld
   refine hK.out _ _ (HS32.out _ HX40.out) (fun hHeld => ?_)
   clear hK K
   try simp only [PT]
   exact wpAnyH_cast (by kernel_rfl) (J4_2_6_7_9_13 x19 x20 x21 s21 A21 n21 c21 s22 A22 n22 c22 t22 B22 m22 d22 g4_13 v40 HX40 HWF19 HWF20 HZ40_0 HNM21 HZ40_1 HZ40_2 HP40 HG40)
  have J4_2_6_7_13 : ∀ (x19 : Int) (x20 : Int) (x21 : Int) (s21 : Bool) (A21 : Option Addr) (n21 : Nat) (c21 : Nat) (g4_13 : Nat) (v : World), Hid (Below x30.heap.size x30 v) → Hid ((Lit.int .i64 x19).wf = true) → Hid ((Lit.int .i64 x20).wf = true) → Hid (RN v s21 A21 n21 c21 x21) → Hid (x21.natAbs < B2 2000) → Hid (BX 41 v g4_13 #[.bool false, .slice none 0 0, .bool false, .slice none 0 0]) → Hid (x30.heap.size ≤ g4_13) → F 6 (Array.setIfInBounds (Array.setIfInBounds (Array.setIfInBounds (Array.setIfInBounds L0 2 true) 6 true) 7 true) 13 true) (Act.put (Act.put (Act.put (Act.put a0 (some 25) (.int .i64 x19)) (some 29) (.int .i64 x20)) (some 30) (.agg #[.bool s21, .slice A21 n21 c21])) (some 6) (.pointer (some ⟨g4_13, 0, none⟩))) v := by
   intro x19 x20 x21 s21 A21 n21 c21 g4_13 v HXj HWF19 HWF20 HZ7hr21j HNM21 HPg4_13j HGg4_13j
   subst hF ha0 hL0
   simp only [PT] at J4_2_6_7_9_13 ⊢
   have hHeld := HS32.out _ HXj.out
   refine wpAnyH_ready (rs := [9]) (by kernel_rfl) (by simp) ?_
   refine .cons rfl (fun K hK => ?_) .nil
   go_simp
   go_at_call 24
   refine (r4make_any x21 x13 (32 * limE) s21 A21 n21 c21 s13 A13 n13 c13 v HZ7hr21j.out (RNo.new HR4hr13w3.out HXj.out) (by decide) (lim_b2 (num_lim2 HNM21.out)) (lim_b2 (num_lim2 HNM13.out))).mono ?_
   rintro e v41 ⟨s22, A22, n22, c22, t22, B22, m22, d22, rfl, hr22, hs22, hb⟩
   have HB41 := hJ hb
   have HR41hr22 := hJ hr22
   have HR41hs22 := hJ hs22
   clear hb hr22 hs22
   go_wp2_with fail
   have HX41 := hJ (bt HXj.out HB41.out)
   have HZ41_0 := hJ (RNo.new HZ7hr21j.out HB41.out)
   have HP41g4_13 := hJ (BX.new HPg4_13j.out HB41.out)
   clear hHeld
   refine hK.out _ _ (HS32.out _ HX41.out) (fun hHeld => ?_)
   clear hK K
   try simp only [PT]
   refine tq 10 ?_
   try simp only [PT]
   refine tq 11 ?_
   try simp only [PT]
   refine tq 12 ?_
   try simp only [PT]
   exact wpAnyH_cast (by kernel_rfl) (J4_2_6_7_9_13 x19 x20 x21 s21 A21 n21 c21 s22 A22 n22 c22 t22 B22 m22 d22 g4_13 v41 HX41 HWF19 HWF20 HZ41_0 HNM21 HR41hr22 HR41hs22 HP41g4_13 HGg4_13j)
  have J4_2_6_7 : ∀ (x19 : Int) (x20 : Int) (x21 : Int) (s21 : Bool) (A21 : Option Addr) (n21 : Nat) (c21 : Nat) (v : World), Hid (Below x30.heap.size x30 v) → Hid ((Lit.int .i64 x19).wf = true) → Hid ((Lit.int .i64 x20).wf = true) → Hid (RN v s21 A21 n21 c21 x21) → Hid (x21.natAbs < B2 2000) → F 7 (Array.setIfInBounds (Array.setIfInBounds (Array.setIfInBounds L0 2 true) 6 true) 7 true) (Act.put (Act.put (Act.put a0 (some 25) (.int .i64 x19)) (some 29) (.int .i64 x20)) (some 30) (.agg #[.bool s21, .slice A21 n21 c21])) v := by
   intro x19 x20 x21 s21 A21 n21 c21 v HXj HWF19 HWF20 HZ7hr21j HNM21
   subst hF ha0 hL0
   simp only [PT] at J4_2_6_7_9 J4_2_6_7_13 ⊢
   have hHeld := HS32.out _ HXj.out
   refine wpAnyH_ready (rs := [9, 13]) (by kernel_rfl) (by simp) ?_
   refine .cons rfl (fun K hK => ?_) ?_
   go_simp
   go_at_call 24
   refine (r4make_any x21 x13 (32 * limE) s21 A21 n21 c21 s13 A13 n13 c13 v HZ7hr21j.out (RNo.new HR4hr13w3.out HXj.out) (by decide) (lim_b2 (num_lim2 HNM21.out)) (lim_b2 (num_lim2 HNM13.out))).mono ?_
   rintro e v42 ⟨s22, A22, n22, c22, t22, B22, m22, d22, rfl, hr22, hs22, hb⟩
   have HB42 := hJ hb
   have HR42hr22 := hJ hr22
   have HR42hs22 := hJ hs22
   clear hb hr22 hs22
   go_wp2_with fail
   have HX42 := hJ (bt HXj.out HB42.out)
   have HZ42_0 := hJ (RNo.new HZ7hr21j.out HB42.out)
   clear hHeld
   refine hK.out _ _ (HS32.out _ HX42.out) (fun hHeld => ?_)
   clear hK K
   try simp only [PT]
   refine tq 10 ?_
   try simp only [PT]
   refine tq 11 ?_
   try simp only [PT]
   refine tq 12 ?_
   try simp only [PT]
   exact wpAnyH_cast (by kernel_rfl) (J4_2_6_7_9 x19 x20 x21 s21 A21 n21 c21 s22 A22 n22 c22 t22 B22 m22 d22 v42 HX42 HWF19 HWF20 HZ42_0 HNM21 HR42hr22 HR42hs22)
   refine .cons rfl (fun K hK => ?_) .nil
   go_simp
   have HB43 := hJ ((Below.refl v.heap.size v).alloc (Nat.le_refl _) (.cells #[.bool false, .slice none 0 0, .bool false, .slice none 0 0] 41))
   have HP43 := hJ (BX.lit v 41 #[.bool false, .slice none 0 0, .bool false, .slice none 0 0])
   obtain ⟨v43, hV⟩ := nmz (World.alloc v (.cells #[.bool false, .slice none 0 0, .bool false, .slice none 0 0] 41))
   obtain ⟨g4_13, hg⟩ := nmz (v.heap.size)
   rw [hV] at HB43 HP43 ⊢
   rw [hg] at HP43 ⊢
   have HG43 := hJ (show x30.heap.size ≤ g4_13 by rw [← hg]; exact HXj.out.size)
   clear hV hg
   have HX43 := hJ (bt HXj.out HB43.out)
   have HZ43_0 := hJ (RNo.new HZ7hr21j.out HB43.out)
   clear hHeld
   refine hK.out _ _ (HS32.out _ HX43.out) (fun hHeld => ?_)
   clear hK K
   try simp only [PT]
   exact wpAnyH_cast (by kernel_rfl) (J4_2_6_7_13 x19 x20 x21 s21 A21 n21 c21 g4_13 v43 HX43 HWF19 HWF20 HZ43_0 HNM21 HP43 HG43)
  have J4_2_6_13 : ∀ (x19 : Int) (x20 : Int) (g4_13 : Nat) (v : World), Hid (Below x30.heap.size x30 v) → Hid ((Lit.int .i64 x19).wf = true) → Hid ((Lit.int .i64 x20).wf = true) → Hid (BX 41 v g4_13 #[.bool false, .slice none 0 0, .bool false, .slice none 0 0]) → Hid (x30.heap.size ≤ g4_13) → F 7 (Array.setIfInBounds (Array.setIfInBounds (Array.setIfInBounds L0 2 true) 6 true) 13 true) (Act.put (Act.put (Act.put a0 (some 25) (.int .i64 x19)) (some 29) (.int .i64 x20)) (some 6) (.pointer (some ⟨g4_13, 0, none⟩))) v := by
   intro x19 x20 g4_13 v HXj HWF19 HWF20 HPg4_13j HGg4_13j
   subst hF ha0 hL0
   simp only [PT] at J4_2_6_7_13 ⊢
   have hHeld := HS32.out _ HXj.out
   refine wpAnyH_ready (rs := [7]) (by kernel_rfl) (by simp) ?_
   refine .cons rfl (fun K hK => ?_) .nil
   go_simp
   go_at_call 16
   refine (r4number_any x19 x20 v HWF19.out HWF20.out).mono ?_
   rintro e v44 ⟨x21, s21, A21, n21, c21, rfl, hr21, hx21, hb⟩
   have HB44 := hJ hb
   have HR44hr21 := hJ hr21
   clear hb hr21
   have HNM21 := hJ hx21
   clear hx21
   go_wp2_with fail
   have HX44 := hJ (bt HXj.out HB44.out)
   have HP44g4_13 := hJ (BX.new HPg4_13j.out HB44.out)
   clear hHeld
   refine hK.out _ _ (HS32.out _ HX44.out) (fun hHeld => ?_)
   clear hK K
   try simp only [PT]
   exact wpAnyH_cast (by kernel_rfl) (J4_2_6_7_13 x19 x20 x21 s21 A21 n21 c21 g4_13 v44 HX44 HWF19 HWF20 HR44hr21 HNM21 HP44g4_13 HGg4_13j)
  have J4_2_6 : ∀ (x19 : Int) (x20 : Int) (v : World), Hid (Below x30.heap.size x30 v) → Hid ((Lit.int .i64 x19).wf = true) → Hid ((Lit.int .i64 x20).wf = true) → F 8 (Array.setIfInBounds (Array.setIfInBounds L0 2 true) 6 true) (Act.put (Act.put a0 (some 25) (.int .i64 x19)) (some 29) (.int .i64 x20)) v := by
   intro x19 x20 v HXj HWF19 HWF20
   subst hF ha0 hL0
   simp only [PT] at J4_2_6_7 J4_2_6_13 ⊢
   have hHeld := HS32.out _ HXj.out
   refine wpAnyH_ready (rs := [7, 13]) (by kernel_rfl) (by simp) ?_
   refine .cons rfl (fun K hK => ?_) ?_
   go_simp
   go_at_call 16
   refine (r4number_any x19 x20 v HWF19.out HWF20.out).mono ?_
   rintro e v45 ⟨x21, s21, A21, n21, c21, rfl, hr21, hx21, hb⟩
   have HB45 := hJ hb
   have HR45hr21 := hJ hr21
   clear hb hr21
   have HNM21 := hJ hx21
   clear hx21
   go_wp2_with fail
   have HX45 := hJ (bt HXj.out HB45.out)
   clear hHeld
   refine hK.out _ _ (HS32.out _ HX45.out) (fun hHeld => ?_)
   clear hK K
   try simp only [PT]
   exact wpAnyH_cast (by kernel_rfl) (J4_2_6_7 x19 x20 x21 s21 A21 n21 c21 v45 HX45 HWF19 HWF20 HR45hr21 HNM21)
   refine .cons rfl (fun K hK => ?_) .nil
   go_simp
   have HB46 := hJ ((Below.refl v.heap.size v).alloc (Nat.le_refl _) (.cells #[.bool false, .slice none 0 0, .bool false, .slice none 0 0] 41))
   have HP46 := hJ (BX.lit v 41 #[.bool false, .slice none 0 0, .bool false, .slice none 0 0])
   obtain ⟨v46, hV⟩ := nmz (World.alloc v (.cells #[.bool false, .slice none 0 0, .bool false, .slice none 0 0] 41))
   obtain ⟨g4_13, hg⟩ := nmz (v.heap.size)
   rw [hV] at HB46 HP46 ⊢
   rw [hg] at HP46 ⊢
   have HG46 := hJ (show x30.heap.size ≤ g4_13 by rw [← hg]; exact HXj.out.size)
   clear hV hg
   have HX46 := hJ (bt HXj.out HB46.out)
   clear hHeld
   refine hK.out _ _ (HS32.out _ HX46.out) (fun hHeld => ?_)
   clear hK K
   try simp only [PT]
   exact wpAnyH_cast (by kernel_rfl) (J4_2_6_13 x19 x20 g4_13 v46 HX46 HWF19 HWF20 HP46 HG46)
  have J4_2_13 : ∀ (x19 : Int) (g4_13 : Nat) (v : World), Hid (Below x30.heap.size x30 v) → Hid ((Lit.int .i64 x19).wf = true) → Hid (BX 41 v g4_13 #[.bool false, .slice none 0 0, .bool false, .slice none 0 0]) → Hid (x30.heap.size ≤ g4_13) → F 8 (Array.setIfInBounds (Array.setIfInBounds L0 2 true) 13 true) (Act.put (Act.put a0 (some 25) (.int .i64 x19)) (some 6) (.pointer (some ⟨g4_13, 0, none⟩))) v := by
   intro x19 g4_13 v HXj HWF19 HPg4_13j HGg4_13j
   subst hF ha0 hL0
   simp only [PT] at J4_2_6_13 ⊢
   have hHeld := HS32.out _ HXj.out
   refine wpAnyH_ready (rs := [6]) (by kernel_rfl) (by simp) ?_
   refine .cons rfl (fun K hK => ?_) .nil
   go_simp
   go_at_call 17
   refine (r4pick_any A ln c xs ((z + 1)) v (Got.new HGw3.out HXj.out) (by omega) (by omega)).mono ?_
   rintro e v47 ⟨x20, rfl, hx20, rfl⟩
   have HWF20 := hJ hx20
   clear hx20
   go_wp2_with fail
   clear hHeld
   refine hK.out _ _ (HS32.out _ HXj.out) (fun hHeld => ?_)
   clear hK K
   try simp only [PT]
   exact wpAnyH_cast (by kernel_rfl) (J4_2_6_13 x19 x20 g4_13 v HXj HWF19 HWF20 HPg4_13j HGg4_13j)
  have J4_2 : ∀ (x19 : Int) (v : World), Hid (Below x30.heap.size x30 v) → Hid ((Lit.int .i64 x19).wf = true) → F 9 (Array.setIfInBounds L0 2 true) (Act.put a0 (some 25) (.int .i64 x19)) v := by
   intro x19 v HXj HWF19
   subst hF ha0 hL0
   simp only [PT] at J4_2_6 J4_2_13 ⊢
   have hHeld := HS32.out _ HXj.out
   refine wpAnyH_ready (rs := [6, 13]) (by kernel_rfl) (by simp) ?_
   refine .cons rfl (fun K hK => ?_) ?_
   go_simp
   go_at_call 17
   refine (r4pick_any A ln c xs ((z + 1)) v (Got.new HGw3.out HXj.out) (by omega) (by omega)).mono ?_
   rintro e v48 ⟨x20, rfl, hx20, rfl⟩
   have HWF20 := hJ hx20
   clear hx20
   go_wp2_with fail
   clear hHeld
   refine hK.out _ _ (HS32.out _ HXj.out) (fun hHeld => ?_)
   clear hK K
   try simp only [PT]
   exact wpAnyH_cast (by kernel_rfl) (J4_2_6 x19 x20 v HXj HWF19 HWF20)
   refine .cons rfl (fun K hK => ?_) .nil
   go_simp
   have HB49 := hJ ((Below.refl v.heap.size v).alloc (Nat.le_refl _) (.cells #[.bool false, .slice none 0 0, .bool false, .slice none 0 0] 41))
   have HP49 := hJ (BX.lit v 41 #[.bool false, .slice none 0 0, .bool false, .slice none 0 0])
   obtain ⟨v49, hV⟩ := nmz (World.alloc v (.cells #[.bool false, .slice none 0 0, .bool false, .slice none 0 0] 41))
   obtain ⟨g4_13, hg⟩ := nmz (v.heap.size)
   rw [hV] at HB49 HP49 ⊢
   rw [hg] at HP49 ⊢
   have HG49 := hJ (show x30.heap.size ≤ g4_13 by rw [← hg]; exact HXj.out.size)
   clear hV hg
   have HX49 := hJ (bt HXj.out HB49.out)
   clear hHeld
   refine hK.out _ _ (HS32.out _ HX49.out) (fun hHeld => ?_)
   clear hK K
   try simp only [PT]
   exact wpAnyH_cast (by kernel_rfl) (J4_2_13 x19 g4_13 v49 HX49 HWF19 HP49 HG49)
  have J4_13 : ∀ (g4_13 : Nat) (v : World), Hid (Below x30.heap.size x30 v) → Hid (BX 41 v g4_13 #[.bool false, .slice none 0 0, .bool false, .slice none 0 0]) → Hid (x30.heap.size ≤ g4_13) → F 9 (Array.setIfInBounds L0 13 true) (Act.put a0 (some 6) (.pointer (some ⟨g4_13, 0, none⟩))) v := by
   intro g4_13 v HXj HPg4_13j HGg4_13j
   subst hF ha0 hL0
   simp only [PT] at J4_2_13 ⊢
   have hHeld := HS32.out _ HXj.out
   refine wpAnyH_ready (rs := [2]) (by kernel_rfl) (by simp) ?_
   refine .cons rfl (fun K hK => ?_) .nil
   go_simp
   go_at_call 17
   refine (r4pick_any A ln c xs z v (Got.new HGw3.out HXj.out) (by omega) (by omega)).mono ?_
   rintro e v50 ⟨x19, rfl, hx19, rfl⟩
   have HWF19 := hJ hx19
   clear hx19
   go_wp2_with fail
   clear hHeld
   refine hK.out _ _ (HS32.out _ HXj.out) (fun hHeld => ?_)
   clear hK K
   try simp only [PT]
   exact wpAnyH_cast (by kernel_rfl) (J4_2_13 x19 g4_13 v HXj HWF19 HPg4_13j HGg4_13j)
  subst hF ha0 hL0
  simp only [PT] at J4_2 J4_13
  refine wpAnyH_ready (rs := [2, 13]) (by kernel_rfl) (by simp) ?_
  refine .cons rfl (fun K hK => ?_) ?_
  go_simp
  go_at_call 17
  refine (r4pick_any A ln c xs z v32 (Got.new HGw3.out HX32.out) (by omega) (by omega)).mono ?_
  rintro e v51 ⟨x19, rfl, hx19, rfl⟩
  have HWF19 := hJ hx19
  clear hx19
  go_wp2_with fail
  clear hHeld
  refine hK.out _ _ (HS32.out _ HX32.out) (fun hHeld => ?_)
  clear hK K
  try simp only [PT]
  exact wpAnyH_cast (by kernel_rfl) (J4_2 x19 v32 HX32 HWF19)
  refine .cons rfl (fun K hK => ?_) .nil
  go_simp
  have HB52 := hJ ((Below.refl v32.heap.size v32).alloc (Nat.le_refl _) (.cells #[.bool false, .slice none 0 0, .bool false, .slice none 0 0] 41))
  have HP52 := hJ (BX.lit v32 41 #[.bool false, .slice none 0 0, .bool false, .slice none 0 0])
  obtain ⟨v52, hV⟩ := nmz (World.alloc v32 (.cells #[.bool false, .slice none 0 0, .bool false, .slice none 0 0] 41))
  obtain ⟨g4_13, hg⟩ := nmz (v32.heap.size)
  rw [hV] at HB52 HP52 ⊢
  rw [hg] at HP52 ⊢
  have HG52 := hJ (show x30.heap.size ≤ g4_13 by rw [← hg]; exact HX32.out.size)
  clear hV hg
  have HX52 := hJ (bt HX32.out HB52.out)
  clear hHeld
  refine hK.out _ _ (HS32.out _ HX52.out) (fun hHeld => ?_)
  clear hK K
  try simp only [PT]
  exact wpAnyH_cast (by kernel_rfl) (J4_13 g4_13 v52 HX52 HP52 HG52)
end Go.Proofs.YtbhnaffbgggabaaGreat
