/- The walk of the law FracBounds. -/
import Derived.Test.YtbhnaffbgggabaaGreatGB
import Derived.Test.YtbhnaffbgggabaaGreatNRs
import Derived.Test.YtbhnaffbgggabaaGreatAO
import Derived.Test.YtbhnaffbgggabaaGreatAC
import Derived.Test.YtbhnaffbgggabaaGreatAG
import Derived.Laws.BytesArg
import Derived.Deep.DeepCutAuto
namespace Go.Proofs.YtbhnaffbgggabaaGreat
open Go.RowKit
attribute [local go_sem ↓] Go.wp_at_zero Go.wp_at_succ
set_option linter.unusedVariables false
set_option linter.unusedSimpArgs false
/-- The same region, its state put in another form. -/
theorem wpAnyH_cast2 {P : Program} {md : Region.Mode} {ops : Array Oper} {Q : Exit → Act → World → Prop} {S : World → Prop} {fuel : Nat} {L L' : Array Bool} {A A' : Act} {w : World} (hA : A = A') (hL : L = L') (h : wpAnyH P md ops Q S fuel L A w) : wpAnyH P md ops Q S fuel L' A' w := hA ▸ hL ▸ h
theorem b2_mono {j k : Nat} (h : j ≤ k) : B2 j ≤ B2 k := Nat.pow_le_pow_right (by decide) h
theorem top_lim {x j : Int} (h : x = ((B2 16384 : Nat) : Int)) (h1 : 1 ≤ j) (h2 : j ≤ 41) : (x - j).natAbs < lim := by
 have e : lim = B2 (32 * limE) := lim_two
 rw [show 32 * limE = 16384 from rfl] at e
 have h3 : 41 ≤ B2 16384 := Nat.le_trans (show 41 ≤ B2 6 by decide) (b2_mono (by decide))
 rw [e, h]
 generalize B2 16384 = y at h3 ⊢
 omega
set_option maxRecDepth 100000 in
set_option maxHeartbeats 1600000 in
theorem l4around40_any (n : Int) (w : World) (hn : (Lit.int .i64 n).wf = true) :
  Calls Tryz.prog 42 #[.int .i64 n, .int .i64 40] w fun e w' => ∃ k : Int, e = .returned (.int .i64 k) ∧ (0 ≤ k ∧ k < 40) ∧ w = w' := by
 obtain ⟨hb1, hb2⟩ : -9223372036854775808 ≤ n ∧ n ≤ 9223372036854775807 := by simpa [Lit.wf, IntKind.min, IntKind.max, IntKind.signed, IntKind.bits] using hn
 clear hn
 obtain ⟨r, hr⟩ : ∃ r, n.tmod 40 = r := ⟨_, rfl⟩
 have hr0 : -40 < r ∧ r < 40 := by
  rw [← hr]
  have h1 := Int.tmod_lt_of_pos n (show (0 : Int) < 40 by decide)
  have h2 := Int.lt_tmod_of_pos n (show (0 : Int) < 40 by decide)
  omega
 obtain ⟨hr1, hr2⟩ := hr0
 rcases (show r < 0 ∨ ¬ r < 0 by omega) with q | q
 ·go_enter Tryz.func42, Tryz.ntmps42
  go_wp2
  go_ret
  exact ⟨r + 40, rfl, ⟨by omega, by omega⟩, rfl⟩
 ·go_enter Tryz.func42, Tryz.ntmps42
  go_wp2
  go_ret
  exact ⟨r, rfl, ⟨by omega, by omega⟩, rfl⟩
set_option maxRecDepth 100000 in
set_option maxHeartbeats 1600000 in
theorem l4around80_any (n : Int) (w : World) (hn : (Lit.int .i64 n).wf = true) :
  Calls Tryz.prog 42 #[.int .i64 n, .int .i64 80] w fun e w' => ∃ k : Int, e = .returned (.int .i64 k) ∧ (0 ≤ k ∧ k < 80) ∧ w = w' := by
 obtain ⟨hb1, hb2⟩ : -9223372036854775808 ≤ n ∧ n ≤ 9223372036854775807 := by simpa [Lit.wf, IntKind.min, IntKind.max, IntKind.signed, IntKind.bits] using hn
 clear hn
 obtain ⟨r, hr⟩ : ∃ r, n.tmod 80 = r := ⟨_, rfl⟩
 have hr0 : -80 < r ∧ r < 80 := by
  rw [← hr]
  have h1 := Int.tmod_lt_of_pos n (show (0 : Int) < 80 by decide)
  have h2 := Int.lt_tmod_of_pos n (show (0 : Int) < 80 by decide)
  omega
 obtain ⟨hr1, hr2⟩ := hr0
 rcases (show r < 0 ∨ ¬ r < 0 by omega) with q | q
 ·go_enter Tryz.func42, Tryz.ntmps42
  go_wp2
  go_ret
  exact ⟨r + 80, rfl, ⟨by omega, by omega⟩, rfl⟩
 ·go_enter Tryz.func42, Tryz.ntmps42
  go_wp2
  go_ret
  exact ⟨r, rfl, ⟨by omega, by omega⟩, rfl⟩
set_option maxRecDepth 100000 in
set_option maxHeartbeats 6400000 in
theorem fracBounds_walk (n m : Int) (b : Bool) (w : World) (hn : (Lit.int .i64 n).wf = true) (hm : (Lit.int .i64 m).wf = true) :
  Calls Tryz.prog 5 #[.int .i64 n, .int .i64 m, .bool b] w fun e w' => e = .returned (.bool true) ∧ Below w.heap.size w w' := by
 have HWN := hJ hn
 have HWM := hJ hm
 clear hn hm
 go_enter Tryz.func5, Tryz.ntmps5
 go_wp2_with fail
 refine (power_v 16384 16384 w rfl (by decide)).mono ?_
 rintro e w1 ⟨x11, s11, A11, n11, c11, rfl, hr11, hx11, hb⟩
 have HB1 := hJ hb
 have HR1hr11 := hJ hr11
 clear hb hr11
 have HNM11 := hJ hx11
 clear hx11
 go_wp2_with fail
 refine (l4around40_any n w1 HWN.out).mono ?_
 rintro e w2 ⟨k12, rfl, ⟨hk12a, hk12b⟩, rfl⟩
 have HJ1 := hJ (show 1 ≤ 1 + k12 by omega)
 have HJ2 := hJ (show 1 + k12 ≤ 41 by omega)
 have HJW := hJ (show (Lit.int .i64 (1 + k12)).wf = true from WalkArith.wf_i64 ⟨by omega, by omega⟩)
 go_wp2_with fail
 refine (of_any ((1 + k12)) w1 HJW.out).mono ?_
 rintro e w3 ⟨s13, A13, n13, c13, rfl, hr13, hb⟩
 have HB3 := hJ hb
 have HR3hr13 := hJ hr13
 clear hb hr13
 have HR1hr11w2 := hJ (RNo.new HR1hr11.out HB3.out)
 go_wp2_with fail
 refine (sub_any x11 ((1 + k12)) s11 s13 A11 A13 n11 c11 n13 c13 w3 HR1hr11w2.out HR3hr13.out (Nat.le_trans (B2.rlen HR1hr11w2.out (b2_pow HNM11.out)) (by decide)) (Nat.le_trans (rlim HR3hr13.out (i64_lim (x := (1 + k12)) HJW.out)) (by decide))).mono ?_
 rintro e w4 ⟨s14, A14, n14, c14, rfl, hr14, hb⟩
 have HB4 := hJ hb
 have HR4hr14 := hJ hr14
 clear hb hr14
 obtain ⟨x5, hx5⟩ := nmz (w4.alloc (.cells #[.bool s14, .slice A14 n14 c14] 24))
 have HB5 := hJ (show Below w4.heap.size w4 x5 by rw [← hx5]; exact ((Below.refl _ _).alloc (Nat.le_refl _) _))
 have HQ5x0 := hJ (show BX 24 x5 w4.heap.size #[.bool s14, .slice A14 n14 c14] by rw [← hx5]; exact (BX.at rfl))
 have HG5x0 := hJ (show w4.heap.size ≤ w4.heap.size by omega)
 have HL5x0 := hJ (show w4.heap.size < x5.heap.size from HQ5x0.out.lt)
 have HC0_3 := hJ (bt (bt HB1.out HB3.out) HB4.out)
 have HC1_3 := hJ (bt HB3.out HB4.out)
 have HR4hr14w4 := hJ (RNo.new HR4hr14.out HB5.out)
 go_upto_if 41 with fail
 clear hx5
 go_cut [7] (fun v wx => v = .pointer (some ⟨w4.heap.size, 0, none⟩) ∧ ∃ (sN : Bool) (AN : Option Addr) (nN cN : Nat) (xN : Int), BX 24 wx w4.heap.size #[.bool sN, .slice AN nN cN] ∧ RN wx sN AN nN cN xN ∧ xN.natAbs < lim ∧ Below w4.heap.size w4 wx)
 case first =>
  rcases b with _ | _
  ·go_wp2_with fail
   go_meet
   exact ⟨rfl, s14, A14, n14, c14, x11 - ((1 + k12)), HQ5x0.out, HR4hr14w4.out, (top_lim HNM11.out HJ1.out HJ2.out), HB5.out⟩
  ·obtain ⟨cl6, cl7⟩ := HQ5x0.out.c2 0 1 rfl rfl
   go_wp2_with fail
   clear cl6 cl7
   refine (neg_any (x11 - ((1 + k12))) s14 A14 n14 c14 x5 HR4hr14w4.out (Nat.le_trans (rlim HR4hr14w4.out (top_lim HNM11.out HJ1.out HJ2.out)) (by decide))).mono ?_
   rintro e w8 ⟨s15, A15, n15, c15, rfl, hr15, hb⟩
   have HB8 := hJ hb
   have HR8hr15 := hJ hr15
   clear hb hr15
   have HQ5x0w5 := hJ (BX.new HQ5x0.out HB8.out)
   have fz9_0 := HQ5x0w5.out.frozen 0
   have fc9_0 := HQ5x0w5.out.cell 0 rfl
   have fz9_1 := HQ5x0w5.out.frozen 1
   have fc9_1 := HQ5x0w5.out.cell 1 rfl
   obtain ⟨x9, hx9⟩ := nmz (World.setCell (World.setCell w8 ⟨w4.heap.size, 0, none⟩ (.bool s15)) ⟨w4.heap.size, 1, none⟩ (.slice A15 n15 c15))
   have HE9 := hJ (show sto w8 w4.heap.size 0 [.bool s15, .slice A15 n15 c15] = x9 from hx9)
   have HQ9s := hJ (show BX 24 x9 w4.heap.size #[.bool s15, .slice A15 n15 c15] by rw [← HE9.out]; exact BX.put HQ5x0w5.out _ _)
   have HR8hr15w6 := hJ (show RN x9 s15 A15 n15 c15 (-(x11 - ((1 + k12)))) by rw [← HE9.out]; exact RNo.sto HR8hr15.out HQ5x0w5.out rfl _ _)
   have HC3_6 := hJ (show Below w4.heap.size w4 x9 by rw [← HE9.out]; exact below_sto (bt HB5.out HB8.out) HG5x0.out _ _)
   go_wp2_with fail
   clear fz9_0 fc9_0 fz9_1 fc9_1 hx9
   go_meet
   exact ⟨rfl, s15, A15, n15, c15, -(x11 - ((1 + k12))), HQ9s.out, HR8hr15w6.out, (show (-(x11 - ((1 + k12)))).natAbs < lim by rw [Int.natAbs_neg]; exact (top_lim HNM11.out HJ1.out HJ2.out)), HC3_6.out⟩
 case rest =>
  obtain ⟨rfl, sN, AN, nN, cN, xN, hq, hr, hx, hbel⟩ := hcut
  have HQN := hJ hq
  have HRN := hJ hr
  have HXN := hJ hx
  have HBW10 := hJ hbel
  obtain ⟨wl10, rfl⟩ := nm_world hbel
  clear hq hr hx hbel
  have HBX10_0 := hJ (bt HC0_3.out HBW10.out)
  have HBX10_1 := hJ (bt HC1_3.out HBW10.out)
  have HBX10_2 := hJ (bt HB4.out HBW10.out)
  have HLW10 := hJ HQN.out.lt
  obtain ⟨cl11, cl12⟩ := HQN.out.c2 0 1 rfl rfl
  go_wp2_with fail
  clear cl11 cl12
  refine (l4num_any xN sN AN nN cN wl10 HRN.out (Nat.le_trans (rlim HRN.out HXN.out) (by decide)) HXN.out).mono ?_
  rintro e w13 ⟨s16, A16, n16, c16, rfl, hr16, hb⟩
  have HB13 := hJ hb
  have HR13hr16 := hJ hr16
  clear hb hr16
  go_wp2_with fail
  refine (from_any 1 w13 (by decide)).mono ?_
  rintro e w14 ⟨s17, A17, n17, c17, rfl, hr17, hb⟩
  have HB14 := hJ hb
  have HR14hr17 := hJ hr17
  clear hb hr17
  obtain ⟨P18, hP18⟩ := nmz (mkP xN 1)
  have HEP18 := hJ hP18
  clear hP18
  obtain ⟨Q19, hQ19⟩ := nmz (mkQ xN 1)
  have HEQ19 := hJ hQ19
  clear hQ19
  obtain ⟨C20, hC20⟩ := nmz (mkC 1)
  have HEC20 := hJ hC20
  clear hC20
  have HF21 := hJ (show Fr P18 Q19 by rw [← HEP18.out, ← HEQ19.out]; exact fr_mk HXN.out (i64_lim (x := 1) (by decide)))
  have HR13hr16w7 := hJ (PIo.new HR13hr16.out HB14.out)
  go_wp2_with fail
  refine (fmake_any xN 1 s16 s17 A16 A17 n16 c16 n17 c17 w14 HR13hr16w7.out HR14hr17.out HXN.out (i64_lim (x := 1) (by decide))).mono ?_
  rw [HEP18.out, HEQ19.out, HEC20.out]
  rintro e w15 ⟨s22, A22, n22, c22, t22, B22, m22, d22, rfl, hr22, hb⟩
  have HB15 := hJ hb
  have HR15hr22 := hJ hr22
  clear hb hr22
  obtain ⟨x16, hx16⟩ := nmz (w15.alloc (.cells #[.bool s22, .slice A22 n22 c22, .bool t22, .slice B22 m22 d22] 35))
  have HB16 := hJ (show Below w15.heap.size w15 x16 by rw [← hx16]; exact ((Below.refl _ _).alloc (Nat.le_refl _) _))
  have HQ16x0 := hJ (show BX 35 x16 w15.heap.size #[.bool s22, .slice A22 n22 c22, .bool t22, .slice B22 m22 d22] by rw [← hx16]; exact (BX.at rfl))
  have HG16x0 := hJ (show w15.heap.size ≤ w15.heap.size by omega)
  have HL16x0 := hJ (show w15.heap.size < x16.heap.size from HQ16x0.out.lt)
  have HC5_9 := hJ (bt (bt (bt HB13.out HB14.out) HB15.out) HB16.out)
  have HQNw9 := hJ (BX.new HQN.out HC5_9.out)
  have HS17 : Hid (∀ w', Below x16.heap.size x16 w' → (fun w' : World => w'.cell? ⟨w4.heap.size, 0, none⟩ = some (.bool sN) ∧ w'.cell? ⟨w4.heap.size, 1, none⟩ = some (.slice AN nN cN) ∧ Below x16.heap.size x16 w') w') := hJ (fun w' hb => ⟨(BX.new HQNw9.out hb).cell 0 rfl, (BX.new HQNw9.out hb).cell 1 rfl, hb⟩)
  have HRNw9 := hJ (RNo.new HRN.out HC5_9.out)
  go_wp2_with fail
  clear hx16
  obtain ⟨v17, hv17⟩ := nmz (World.drew x16)
  have HX17 := hJ (show Below x16.heap.size x16 v17 by rw [← hv17]; exact (Below.refl _ _).drew)
  refine wp_region_held_drew (S := (fun w' : World => w'.cell? ⟨w4.heap.size, 0, none⟩ = some (.bool sN) ∧ w'.cell? ⟨w4.heap.size, 1, none⟩ = some (.slice AN nN cN) ∧ Below x16.heap.size x16 w')) (by kernel_rfl) ?_ (fun hHeld => ?_)
  ·rw [hv17]
   exact HS17.out _ HX17.out
  rw [hv17] at hHeld ⊢
  clear hv17
  refine tq 0 ?_
  try simp only [PT]
  refine wpAnyH_name (fun F hF a0 ha0 L0 hL0 => ?_)
  have J5_1_2_6 : ∀ (s23 : Bool) (A23 : Option Addr) (n23 : Nat) (c23 : Nat) (s24 : Bool) (A24 : Option Addr) (n24 : Nat) (c24 : Nat) (t24 : Bool) (B24 : Option Addr) (m24 : Nat) (d24 : Nat) (g5_6 : Nat) (v : World), Hid (Below x16.heap.size x16 v) → Hid (RN v s23 A23 n23 c23 1) → Hid (RN v s24 A24 n24 c24 P18) → Hid (RN v t24 B24 m24 d24 Q19) → Hid (BX 41 v g5_6 #[.bool false, .slice none 0 0, .bool false, .slice none 0 0]) → Hid (x16.heap.size ≤ g5_6) → F 2 (Array.setIfInBounds (Array.setIfInBounds (Array.setIfInBounds (Array.setIfInBounds (Array.setIfInBounds (Array.setIfInBounds L0 1 true) 2 true) 6 true) 3 true) 4 true) 5 true) (Act.put (Act.put (Act.put (Act.put (Act.put (Act.put a0 (some 53) (.agg #[.bool s23, .slice A23 n23 c23])) (some 54) (.tuple #[.agg #[.bool s24, .slice A24 n24 c24, .bool t24, .slice B24 m24 d24], .int .i64 C20])) (some 10) (.pointer (some ⟨g5_6, 0, none⟩))) (some 51) (.tuple #[.agg #[.bool s24, .slice A24 n24 c24, .bool t24, .slice B24 m24 d24], .int .i64 C20])) (some 55) (.agg #[.bool s24, .slice A24 n24 c24, .bool t24, .slice B24 m24 d24])) (some 56) (.int .i64 C20)) v := by
   intro s23 A23 n23 c23 s24 A24 n24 c24 t24 B24 m24 d24 g5_6 v HXj HZ1hr23j HZ2hr24j HZ2hs24j HPg5_6j HGg5_6j
   subst hF ha0 hL0
   simp only [PT] at  ⊢
   have hHeld := HS17.out _ HXj.out
   refine wpAnyH_ready (rs := [7]) (by kernel_rfl) (by simp) ?_
   refine .cons rfl (fun K hK => ?_) .nil
   have z18_0 := HPg5_6j.out.cell 0 rfl
   have y18_0 := HPg5_6j.out.frozen 0
   have z18_1 := HPg5_6j.out.cell 1 rfl
   have y18_1 := HPg5_6j.out.frozen 1
   have z18_2 := HPg5_6j.out.cell 2 rfl
   have y18_2 := HPg5_6j.out.frozen 2
   have z18_3 := HPg5_6j.out.cell 3 rfl
   have y18_3 := HPg5_6j.out.frozen 3
   have z18 := HPg5_6j.out.lt
   go_simp
   obtain ⟨v18, hV⟩ := nmz (World.setCell (World.setCell (World.setCell (World.setCell v ⟨g5_6, 0, none⟩ (.bool s24)) ⟨g5_6, 1, none⟩ (.slice A24 n24 c24)) ⟨g5_6, 2, none⟩ (.bool t24)) ⟨g5_6, 3, none⟩ (.slice B24 m24 d24))
   rw [hV]
   have HE18 := hJ (show sto v g5_6 0 [.bool s24, .slice A24 n24 c24, .bool t24, .slice B24 m24 d24] = v18 from hV)
   clear hV z18 z18_0 y18_0 z18_1 y18_1 z18_2 y18_2 z18_3 y18_3
   have HX18 := hJ (show Below x16.heap.size x16 v18 by rw [← HE18.out]; exact below_sto HXj.out HGg5_6j.out _ _)
   have HZ18_0 := hJ (show RN v18 s23 A23 n23 c23 1 by rw [← HE18.out]; exact RNo.sto HZ1hr23j.out HPg5_6j.out rfl _ _)
   have HZ18_1 := hJ (show RN v18 s24 A24 n24 c24 P18 by rw [← HE18.out]; exact RNo.sto HZ2hr24j.out HPg5_6j.out rfl _ _)
   have HZ18_2 := hJ (show RN v18 t24 B24 m24 d24 Q19 by rw [← HE18.out]; exact RNo.sto HZ2hs24j.out HPg5_6j.out rfl _ _)
   have HP18g5_6 := hJ (show BX 41 v18 g5_6 #[.bool s24, .slice A24 n24 c24, .bool t24, .slice B24 m24 d24] by rw [← HE18.out]; exact BX.put HPg5_6j.out _ _)
   clear hHeld
   refine hK.out _ _ (HS17.out _ HX18.out) (fun hHeld => ?_)
   clear hK K
   try simp only [PT]
   refine tq 8 ?_
   try simp only [PT]
   refine wpAnyH_done (by kernel_rfl) ?_ _
   clear hHeld
   have HL19 := hJ (show g5_6 < v18.heap.size from HP18g5_6.out.lt)
   obtain ⟨P27, hP27⟩ := nmz (mkP 3 xN)
   have HEP27 := hJ hP27
   clear hP27
   obtain ⟨Q28, hQ28⟩ := nmz (mkQ 3 xN)
   have HEQ28 := hJ hQ28
   clear hQ28
   obtain ⟨C29, hC29⟩ := nmz (mkC xN)
   have HEC29 := hJ hC29
   clear hC29
   have HF30 := hJ (show Fr P27 Q28 by rw [← HEP27.out, ← HEQ28.out]; exact fr_mk (i64_lim (x := 3) (by decide)) HXN.out)
   have HQNw10 := hJ (BX.new HQNw9.out HX18.out)
   have HS20 : Hid (∀ w', Below v18.heap.size v18 w' → (fun w' : World => w'.cell? ⟨w4.heap.size, 0, none⟩ = some (.bool sN) ∧ w'.cell? ⟨w4.heap.size, 1, none⟩ = some (.slice AN nN cN) ∧ Below v18.heap.size v18 w') w') := hJ (fun w' hb => ⟨(BX.new HQNw10.out hb).cell 0 rfl, (BX.new HQNw10.out hb).cell 1 rfl, hb⟩)
   have HRNw10 := hJ (RNo.new HRNw9.out HX18.out)
   go_wp2_with fail
   obtain ⟨v20, hv20⟩ := nmz (World.drew v18)
   have HX20 := hJ (show Below v18.heap.size v18 v20 by rw [← hv20]; exact (Below.refl _ _).drew)
   refine wp_region_held_drew (S := (fun w' : World => w'.cell? ⟨w4.heap.size, 0, none⟩ = some (.bool sN) ∧ w'.cell? ⟨w4.heap.size, 1, none⟩ = some (.slice AN nN cN) ∧ Below v18.heap.size v18 w')) (by kernel_rfl) ?_ (fun hHeld => ?_)
   ·rw [hv20]
    exact HS20.out _ HX20.out
   rw [hv20] at hHeld ⊢
   clear hv20
   refine tq 1 ?_
   try simp only [PT]
   refine wpAnyH_name (fun F hF a0 ha0 L0 hL0 => ?_)
   have J6_0_2_3_7 : ∀ (s25 : Bool) (A25 : Option Addr) (n25 : Nat) (c25 : Nat) (s26 : Bool) (A26 : Option Addr) (n26 : Nat) (c26 : Nat) (s31 : Bool) (A31 : Option Addr) (n31 : Nat) (c31 : Nat) (t31 : Bool) (B31 : Option Addr) (m31 : Nat) (d31 : Nat) (g6_7 : Nat) (v : World), Hid (Below v18.heap.size v18 v) → Hid (PI v s25 A25 n25 c25 3) → Hid (PI v s26 A26 n26 c26 xN) → Hid (PF v s31 A31 n31 c31 t31 B31 m31 d31 P27 Q28) → Hid (BX 35 v g6_7 #[.bool false, .slice none 0 0, .bool false, .slice none 0 0]) → Hid (v18.heap.size ≤ g6_7) → F 2 (Array.setIfInBounds (Array.setIfInBounds (Array.setIfInBounds (Array.setIfInBounds (Array.setIfInBounds (Array.setIfInBounds (Array.setIfInBounds L0 0 true) 2 true) 3 true) 7 true) 4 true) 5 true) 6 true) (Act.put (Act.put (Act.put (Act.put (Act.put (Act.put (Act.put a0 (some 58) (.agg #[.bool s25, .slice A25 n25 c25])) (some 60) (.agg #[.bool s26, .slice A26 n26 c26])) (some 61) (.tuple #[.agg #[.bool s31, .slice A31 n31 c31, .bool t31, .slice B31 m31 d31], .int .i64 C29])) (some 12) (.pointer (some ⟨g6_7, 0, none⟩))) (some 57) (.tuple #[.agg #[.bool s31, .slice A31 n31 c31, .bool t31, .slice B31 m31 d31], .int .i64 C29])) (some 62) (.agg #[.bool s31, .slice A31 n31 c31, .bool t31, .slice B31 m31 d31])) (some 63) (.int .i64 C29)) v := by
    intro s25 A25 n25 c25 s26 A26 n26 c26 s31 A31 n31 c31 t31 B31 m31 d31 g6_7 v HXj HZ0hr25j HZ2hr26j HZ3hr31j HPg6_7j HGg6_7j
    subst hF ha0 hL0
    simp only [PT] at  ⊢
    have hHeld := HS20.out _ HXj.out
    refine wpAnyH_ready (rs := [8]) (by kernel_rfl) (by simp) ?_
    refine .cons rfl (fun K hK => ?_) .nil
    have z21_0 := HPg6_7j.out.cell 0 rfl
    have y21_0 := HPg6_7j.out.frozen 0
    have z21_1 := HPg6_7j.out.cell 1 rfl
    have y21_1 := HPg6_7j.out.frozen 1
    have z21_2 := HPg6_7j.out.cell 2 rfl
    have y21_2 := HPg6_7j.out.frozen 2
    have z21_3 := HPg6_7j.out.cell 3 rfl
    have y21_3 := HPg6_7j.out.frozen 3
    have z21 := HPg6_7j.out.lt
    go_simp
    obtain ⟨v21, hV⟩ := nmz (World.setCell (World.setCell (World.setCell (World.setCell v ⟨g6_7, 0, none⟩ (.bool s31)) ⟨g6_7, 1, none⟩ (.slice A31 n31 c31)) ⟨g6_7, 2, none⟩ (.bool t31)) ⟨g6_7, 3, none⟩ (.slice B31 m31 d31))
    rw [hV]
    have HE21 := hJ (show sto v g6_7 0 [.bool s31, .slice A31 n31 c31, .bool t31, .slice B31 m31 d31] = v21 from hV)
    clear hV z21 z21_0 y21_0 z21_1 y21_1 z21_2 y21_2 z21_3 y21_3
    have HX21 := hJ (show Below v18.heap.size v18 v21 by rw [← HE21.out]; exact below_sto HXj.out HGg6_7j.out _ _)
    have HZ21_0 := hJ (show PI v21 s25 A25 n25 c25 3 by rw [← HE21.out]; exact PIo.sto HZ0hr25j.out HPg6_7j.out rfl _ _)
    have HZ21_1 := hJ (show PI v21 s26 A26 n26 c26 xN by rw [← HE21.out]; exact PIo.sto HZ2hr26j.out HPg6_7j.out rfl _ _)
    have HZ21_2 := hJ (show PF v21 s31 A31 n31 c31 t31 B31 m31 d31 P27 Q28 by rw [← HE21.out]; exact PF.sto HZ3hr31j.out HPg6_7j.out rfl _ _)
    have HP21g6_7 := hJ (show BX 35 v21 g6_7 #[.bool s31, .slice A31 n31 c31, .bool t31, .slice B31 m31 d31] by rw [← HE21.out]; exact BX.put HPg6_7j.out _ _)
    clear hHeld
    refine hK.out _ _ (HS20.out _ HX21.out) (fun hHeld => ?_)
    clear hK K
    try simp only [PT]
    refine tq 9 ?_
    try simp only [PT]
    refine wpAnyH_done (by kernel_rfl) ?_ _
    clear hHeld
    have HL22 := hJ (show g6_7 < v21.heap.size from HP21g6_7.out.lt)
    have HQNw11 := hJ (BX.new HQNw10.out HX21.out)
    have HS23 : Hid (∀ w', Below v21.heap.size v21 w' → (fun w' : World => w'.cell? ⟨w4.heap.size, 0, none⟩ = some (.bool sN) ∧ w'.cell? ⟨w4.heap.size, 1, none⟩ = some (.slice AN nN cN) ∧ Below v21.heap.size v21 w') w') := hJ (fun w' hb => ⟨(BX.new HQNw11.out hb).cell 0 rfl, (BX.new HQNw11.out hb).cell 1 rfl, hb⟩)
    have HRNw11 := hJ (RNo.new HRNw10.out HX21.out)
    go_wp2_with fail
    obtain ⟨v23, hv23⟩ := nmz (World.drew v21)
    have HX23 := hJ (show Below v21.heap.size v21 v23 by rw [← hv23]; exact (Below.refl _ _).drew)
    refine wp_region_held_drew (S := (fun w' : World => w'.cell? ⟨w4.heap.size, 0, none⟩ = some (.bool sN) ∧ w'.cell? ⟨w4.heap.size, 1, none⟩ = some (.slice AN nN cN) ∧ Below v21.heap.size v21 w')) (by kernel_rfl) ?_ (fun hHeld => ?_)
    ·rw [hv23]
     exact HS23.out _ HX23.out
    rw [hv23] at hHeld ⊢
    clear hv23
    refine tq 1 ?_
    try simp only [PT]
    refine wpAnyH_name (fun F hF a0 ha0 L0 hL0 => ?_)
    have J7_0_2_6 : ∀ (s32 : Bool) (A32 : Option Addr) (n32 : Nat) (c32 : Nat) (s33 : Bool) (A33 : Option Addr) (n33 : Nat) (c33 : Nat) (t33 : Bool) (B33 : Option Addr) (m33 : Nat) (d33 : Nat) (g7_6 : Nat) (v : World), Hid (Below v21.heap.size v21 v) → Hid (RN v s32 A32 n32 c32 3) → Hid (RN v s33 A33 n33 c33 P27) → Hid (RN v t33 B33 m33 d33 Q28) → Hid (BX 41 v g7_6 #[.bool false, .slice none 0 0, .bool false, .slice none 0 0]) → Hid (v21.heap.size ≤ g7_6) → F 2 (Array.setIfInBounds (Array.setIfInBounds (Array.setIfInBounds (Array.setIfInBounds (Array.setIfInBounds (Array.setIfInBounds L0 0 true) 2 true) 6 true) 3 true) 4 true) 5 true) (Act.put (Act.put (Act.put (Act.put (Act.put (Act.put a0 (some 65) (.agg #[.bool s32, .slice A32 n32 c32])) (some 67) (.tuple #[.agg #[.bool s33, .slice A33 n33 c33, .bool t33, .slice B33 m33 d33], .int .i64 C29])) (some 14) (.pointer (some ⟨g7_6, 0, none⟩))) (some 64) (.tuple #[.agg #[.bool s33, .slice A33 n33 c33, .bool t33, .slice B33 m33 d33], .int .i64 C29])) (some 68) (.agg #[.bool s33, .slice A33 n33 c33, .bool t33, .slice B33 m33 d33])) (some 69) (.int .i64 C29)) v := by
     intro s32 A32 n32 c32 s33 A33 n33 c33 t33 B33 m33 d33 g7_6 v HXj HZ0hr32j HZ2hr33j HZ2hs33j HPg7_6j HGg7_6j
     subst hF ha0 hL0
     simp only [PT] at  ⊢
     have hHeld := HS23.out _ HXj.out
     refine wpAnyH_ready (rs := [7]) (by kernel_rfl) (by simp) ?_
     refine .cons rfl (fun K hK => ?_) .nil
     have z24_0 := HPg7_6j.out.cell 0 rfl
     have y24_0 := HPg7_6j.out.frozen 0
     have z24_1 := HPg7_6j.out.cell 1 rfl
     have y24_1 := HPg7_6j.out.frozen 1
     have z24_2 := HPg7_6j.out.cell 2 rfl
     have y24_2 := HPg7_6j.out.frozen 2
     have z24_3 := HPg7_6j.out.cell 3 rfl
     have y24_3 := HPg7_6j.out.frozen 3
     have z24 := HPg7_6j.out.lt
     go_simp
     obtain ⟨v24, hV⟩ := nmz (World.setCell (World.setCell (World.setCell (World.setCell v ⟨g7_6, 0, none⟩ (.bool s33)) ⟨g7_6, 1, none⟩ (.slice A33 n33 c33)) ⟨g7_6, 2, none⟩ (.bool t33)) ⟨g7_6, 3, none⟩ (.slice B33 m33 d33))
     rw [hV]
     have HE24 := hJ (show sto v g7_6 0 [.bool s33, .slice A33 n33 c33, .bool t33, .slice B33 m33 d33] = v24 from hV)
     clear hV z24 z24_0 y24_0 z24_1 y24_1 z24_2 y24_2 z24_3 y24_3
     have HX24 := hJ (show Below v21.heap.size v21 v24 by rw [← HE24.out]; exact below_sto HXj.out HGg7_6j.out _ _)
     have HZ24_0 := hJ (show RN v24 s32 A32 n32 c32 3 by rw [← HE24.out]; exact RNo.sto HZ0hr32j.out HPg7_6j.out rfl _ _)
     have HZ24_1 := hJ (show RN v24 s33 A33 n33 c33 P27 by rw [← HE24.out]; exact RNo.sto HZ2hr33j.out HPg7_6j.out rfl _ _)
     have HZ24_2 := hJ (show RN v24 t33 B33 m33 d33 Q28 by rw [← HE24.out]; exact RNo.sto HZ2hs33j.out HPg7_6j.out rfl _ _)
     have HP24g7_6 := hJ (show BX 41 v24 g7_6 #[.bool s33, .slice A33 n33 c33, .bool t33, .slice B33 m33 d33] by rw [← HE24.out]; exact BX.put HPg7_6j.out _ _)
     clear hHeld
     refine hK.out _ _ (HS23.out _ HX24.out) (fun hHeld => ?_)
     clear hK K
     try simp only [PT]
     refine tq 8 ?_
     try simp only [PT]
     refine wpAnyH_done (by kernel_rfl) ?_ _
     clear hHeld
     have HL25 := hJ (show g7_6 < v24.heap.size from HP24g7_6.out.lt)
     have HC9_12 := hJ (bt (bt HX18.out HX21.out) HX24.out)
     have HQ16x0w12 := hJ (BX.new HQ16x0.out HC9_12.out)
     obtain ⟨cl26, cl27, cl28, cl29⟩ := HQ16x0w12.out.c4 0 1 2 3 rfl rfl rfl rfl
     have HC10_12 := hJ (bt HX21.out HX24.out)
     have HP18g5_6w12 := hJ (BX.new HP18g5_6.out HC10_12.out)
     obtain ⟨cl30, cl31, cl32, cl33⟩ := HP18g5_6w12.out.c4 0 1 2 3 rfl rfl rfl rfl
     have HC8_12 := hJ (bt (bt (bt HB16.out HX18.out) HX21.out) HX24.out)
     have HR15hr22w12 := hJ (PF.new HR15hr22.out HC8_12.out)
     have HZ18_1w12 := hJ (RNo.new HZ18_1.out HC10_12.out)
     have HZ18_2w12 := hJ (RNo.new HZ18_2.out HC10_12.out)
     go_wp2_with fail
     clear cl26 cl27 cl28 cl29 cl30 cl31 cl32 cl33
     refine (l4same_any P18 Q19 P18 Q19 s22 t22 s24 t24 A22 B22 A24 B24 n22 c22 m22 d22 n24 c24 m24 d24 v24 HR15hr22w12.out HZ18_1w12.out HZ18_2w12.out HF21.out HF21.out.2.1 HF21.out.2.2).mono ?_
     rw [eqF_self]
     rintro e w34 ⟨rfl, hb⟩
     have HB34 := hJ hb
     clear hb
     have HC11_13 := hJ (bt HX24.out HB34.out)
     have HP21g6_7w13 := hJ (BX.new HP21g6_7.out HC11_13.out)
     obtain ⟨cl35, cl36, cl37, cl38⟩ := HP21g6_7w13.out.c4 0 1 2 3 rfl rfl rfl rfl
     have HP24g7_6w13 := hJ (BX.new HP24g7_6.out HB34.out)
     obtain ⟨cl39, cl40, cl41, cl42⟩ := HP24g7_6w13.out.c4 0 1 2 3 rfl rfl rfl rfl
     have HZ21_2w13 := hJ (PF.new HZ21_2.out HC11_13.out)
     have HZ24_1w13 := hJ (RNo.new HZ24_1.out HB34.out)
     have HZ24_2w13 := hJ (RNo.new HZ24_2.out HB34.out)
     go_wp2_with fail
     clear cl35 cl36 cl37 cl38 cl39 cl40 cl41 cl42
     refine (l4same_any P27 Q28 P27 Q28 s31 t31 s33 t33 A31 B31 A33 B33 n31 c31 m31 d31 n33 c33 m33 d33 w34 HZ21_2w13.out HZ24_1w13.out HZ24_2w13.out HF30.out HF30.out.2.1 HF30.out.2.2).mono ?_
     rw [eqF_self]
     rintro e w43 ⟨rfl, hb⟩
     have HB43 := hJ hb
     clear hb
     go_wp2_with fail
     refine (l4around80_any m w43 HWM.out).mono ?_
     rintro e w44 ⟨k34, rfl, ⟨hk34a, hk34b⟩, rfl⟩
     have HKW := hJ (show (Lit.int .i64 (k34 - 40)).wf = true from WalkArith.wf_i64 ⟨by omega, by omega⟩)
     obtain ⟨P36, hP36⟩ := nmz (adP P18 Q19 ((k34 - 40)) 1)
     have HEP36 := hJ hP36
     clear hP36
     obtain ⟨Q37, hQ37⟩ := nmz (adQ P18 Q19 ((k34 - 40)) 1)
     have HEQ37 := hJ hQ37
     clear hQ37
     obtain ⟨C38, hC38⟩ := nmz (adC P18 Q19 ((k34 - 40)) 1)
     have HEC38 := hJ hC38
     clear hC38
     have HF39 := hJ (show Fr P36 Q37 by rw [← HEP36.out, ← HEQ37.out]; exact fr_ad HF21.out (fr_int (x := (k34 - 40)) HKW.out))
     have HC12_14 := hJ (bt HB34.out HB43.out)
     have HQ16x0w14 := hJ (BX.new HQ16x0w12.out HC12_14.out)
     have HS45 : Hid (∀ w', Below w43.heap.size w43 w' → (fun w' : World => w'.cell? ⟨w15.heap.size, 0, none⟩ = some (.bool s22) ∧ w'.cell? ⟨w15.heap.size, 1, none⟩ = some (.slice A22 n22 c22) ∧ w'.cell? ⟨w15.heap.size, 2, none⟩ = some (.bool t22) ∧ w'.cell? ⟨w15.heap.size, 3, none⟩ = some (.slice B22 m22 d22) ∧ Below w43.heap.size w43 w') w') := hJ (fun w' hb => ⟨(BX.new HQ16x0w14.out hb).cell 0 rfl, (BX.new HQ16x0w14.out hb).cell 1 rfl, (BX.new HQ16x0w14.out hb).cell 2 rfl, (BX.new HQ16x0w14.out hb).cell 3 rfl, hb⟩)
     have HR15hr22w14 := hJ (PF.new HR15hr22w12.out HC12_14.out)
     go_wp2_with fail
     obtain ⟨v45, hv45⟩ := nmz (World.drew w43)
     have HX45 := hJ (show Below w43.heap.size w43 v45 by rw [← hv45]; exact (Below.refl _ _).drew)
     refine wp_region_held_drew (S := (fun w' : World => w'.cell? ⟨w15.heap.size, 0, none⟩ = some (.bool s22) ∧ w'.cell? ⟨w15.heap.size, 1, none⟩ = some (.slice A22 n22 c22) ∧ w'.cell? ⟨w15.heap.size, 2, none⟩ = some (.bool t22) ∧ w'.cell? ⟨w15.heap.size, 3, none⟩ = some (.slice B22 m22 d22) ∧ Below w43.heap.size w43 w')) (by kernel_rfl) ?_ (fun hHeld => ?_)
     ·rw [hv45]
      exact HS45.out _ HX45.out
     rw [hv45] at hHeld ⊢
     clear hv45
     refine tq 0 ?_
     try simp only [PT]
     refine tq 1 ?_
     try simp only [PT]
     refine wpAnyH_name (fun F hF a0 ha0 L0 hL0 => ?_)
     have J11_2_3_7 : ∀ (s35 : Bool) (A35 : Option Addr) (n35 : Nat) (c35 : Nat) (t35 : Bool) (B35 : Option Addr) (m35 : Nat) (d35 : Nat) (s40 : Bool) (A40 : Option Addr) (n40 : Nat) (c40 : Nat) (t40 : Bool) (B40 : Option Addr) (m40 : Nat) (d40 : Nat) (g11_7 : Nat) (v : World), Hid (Below w43.heap.size w43 v) → Hid (PF v s35 A35 n35 c35 t35 B35 m35 d35 ((k34 - 40)) 1) → Hid (PF v s40 A40 n40 c40 t40 B40 m40 d40 P36 Q37) → Hid (BX 35 v g11_7 #[.bool false, .slice none 0 0, .bool false, .slice none 0 0]) → Hid (w43.heap.size ≤ g11_7) → F 2 (Array.setIfInBounds (Array.setIfInBounds (Array.setIfInBounds (Array.setIfInBounds (Array.setIfInBounds (Array.setIfInBounds L0 2 true) 3 true) 7 true) 4 true) 5 true) 6 true) (Act.put (Act.put (Act.put (Act.put (Act.put (Act.put a0 (some 96) (.agg #[.bool s35, .slice A35 n35 c35, .bool t35, .slice B35 m35 d35])) (some 97) (.tuple #[.agg #[.bool s40, .slice A40 n40 c40, .bool t40, .slice B40 m40 d40], .int .i64 C38])) (some 17) (.pointer (some ⟨g11_7, 0, none⟩))) (some 93) (.tuple #[.agg #[.bool s40, .slice A40 n40 c40, .bool t40, .slice B40 m40 d40], .int .i64 C38])) (some 98) (.agg #[.bool s40, .slice A40 n40 c40, .bool t40, .slice B40 m40 d40])) (some 99) (.int .i64 C38)) v := by
      intro s35 A35 n35 c35 t35 B35 m35 d35 s40 A40 n40 c40 t40 B40 m40 d40 g11_7 v HXj HZ2hr35j HZ3hr40j HPg11_7j HGg11_7j
      subst hF ha0 hL0
      simp only [PT] at  ⊢
      have hHeld := HS45.out _ HXj.out
      refine wpAnyH_ready (rs := [8]) (by kernel_rfl) (by simp) ?_
      refine .cons rfl (fun K hK => ?_) .nil
      have z46_0 := HPg11_7j.out.cell 0 rfl
      have y46_0 := HPg11_7j.out.frozen 0
      have z46_1 := HPg11_7j.out.cell 1 rfl
      have y46_1 := HPg11_7j.out.frozen 1
      have z46_2 := HPg11_7j.out.cell 2 rfl
      have y46_2 := HPg11_7j.out.frozen 2
      have z46_3 := HPg11_7j.out.cell 3 rfl
      have y46_3 := HPg11_7j.out.frozen 3
      have z46 := HPg11_7j.out.lt
      go_simp
      obtain ⟨v46, hV⟩ := nmz (World.setCell (World.setCell (World.setCell (World.setCell v ⟨g11_7, 0, none⟩ (.bool s40)) ⟨g11_7, 1, none⟩ (.slice A40 n40 c40)) ⟨g11_7, 2, none⟩ (.bool t40)) ⟨g11_7, 3, none⟩ (.slice B40 m40 d40))
      rw [hV]
      have HE46 := hJ (show sto v g11_7 0 [.bool s40, .slice A40 n40 c40, .bool t40, .slice B40 m40 d40] = v46 from hV)
      clear hV z46 z46_0 y46_0 z46_1 y46_1 z46_2 y46_2 z46_3 y46_3
      have HX46 := hJ (show Below w43.heap.size w43 v46 by rw [← HE46.out]; exact below_sto HXj.out HGg11_7j.out _ _)
      have HZ46_0 := hJ (show PF v46 s35 A35 n35 c35 t35 B35 m35 d35 ((k34 - 40)) 1 by rw [← HE46.out]; exact PF.sto HZ2hr35j.out HPg11_7j.out rfl _ _)
      have HZ46_1 := hJ (show PF v46 s40 A40 n40 c40 t40 B40 m40 d40 P36 Q37 by rw [← HE46.out]; exact PF.sto HZ3hr40j.out HPg11_7j.out rfl _ _)
      have HP46g11_7 := hJ (show BX 35 v46 g11_7 #[.bool s40, .slice A40 n40 c40, .bool t40, .slice B40 m40 d40] by rw [← HE46.out]; exact BX.put HPg11_7j.out _ _)
      clear hHeld
      refine hK.out _ _ (HS45.out _ HX46.out) (fun hHeld => ?_)
      clear hK K
      try simp only [PT]
      refine tq 9 ?_
      try simp only [PT]
      refine wpAnyH_done (by kernel_rfl) ?_ _
      clear hHeld
      have HL47 := hJ (show g11_7 < v46.heap.size from HP46g11_7.out.lt)
      have HC12_15 := hJ (bt HC12_14.out HX46.out)
      have HP18g5_6w15 := hJ (BX.new HP18g5_6w12.out HC12_15.out)
      have HS48 : Hid (∀ w', Below v46.heap.size v46 w' → (fun w' : World => w'.cell? ⟨g5_6, 0, none⟩ = some (.bool s24) ∧ w'.cell? ⟨g5_6, 1, none⟩ = some (.slice A24 n24 c24) ∧ w'.cell? ⟨g5_6, 2, none⟩ = some (.bool t24) ∧ w'.cell? ⟨g5_6, 3, none⟩ = some (.slice B24 m24 d24) ∧ Below v46.heap.size v46 w') w') := hJ (fun w' hb => ⟨(BX.new HP18g5_6w15.out hb).cell 0 rfl, (BX.new HP18g5_6w15.out hb).cell 1 rfl, (BX.new HP18g5_6w15.out hb).cell 2 rfl, (BX.new HP18g5_6w15.out hb).cell 3 rfl, hb⟩)
      have HZ18_1w15 := hJ (RNo.new HZ18_1w12.out HC12_15.out)
      have HZ18_2w15 := hJ (RNo.new HZ18_2w12.out HC12_15.out)
      go_wp2_with fail
      obtain ⟨v48, hv48⟩ := nmz (World.drew v46)
      have HX48 := hJ (show Below v46.heap.size v46 v48 by rw [← hv48]; exact (Below.refl _ _).drew)
      refine wp_region_held_drew (S := (fun w' : World => w'.cell? ⟨g5_6, 0, none⟩ = some (.bool s24) ∧ w'.cell? ⟨g5_6, 1, none⟩ = some (.slice A24 n24 c24) ∧ w'.cell? ⟨g5_6, 2, none⟩ = some (.bool t24) ∧ w'.cell? ⟨g5_6, 3, none⟩ = some (.slice B24 m24 d24) ∧ Below v46.heap.size v46 w')) (by kernel_rfl) ?_ (fun hHeld => ?_)
      ·rw [hv48]
       exact HS48.out _ HX48.out
      rw [hv48] at hHeld ⊢
      clear hv48
      refine tq 0 ?_
      try simp only [PT]
      refine tq 1 ?_
      try simp only [PT]
      refine wpAnyH_name (fun F hF a0 ha0 L0 hL0 => ?_)
      have J12_2_3_7 : ∀ (s41 : Bool) (A41 : Option Addr) (n41 : Nat) (c41 : Nat) (t41 : Bool) (B41 : Option Addr) (m41 : Nat) (d41 : Nat) (s42 : Bool) (A42 : Option Addr) (n42 : Nat) (c42 : Nat) (t42 : Bool) (B42 : Option Addr) (m42 : Nat) (d42 : Nat) (g12_7 : Nat) (v : World), Hid (Below v46.heap.size v46 v) → Hid (RN v s41 A41 n41 c41 ((k34 - 40))) → Hid (RN v t41 B41 m41 d41 1) → Hid (RN v s42 A42 n42 c42 P36) → Hid (RN v t42 B42 m42 d42 Q37) → Hid (BX 41 v g12_7 #[.bool false, .slice none 0 0, .bool false, .slice none 0 0]) → Hid (v46.heap.size ≤ g12_7) → F 2 (Array.setIfInBounds (Array.setIfInBounds (Array.setIfInBounds (Array.setIfInBounds (Array.setIfInBounds (Array.setIfInBounds L0 2 true) 3 true) 7 true) 4 true) 5 true) 6 true) (Act.put (Act.put (Act.put (Act.put (Act.put (Act.put a0 (some 103) (.agg #[.bool s41, .slice A41 n41 c41, .bool t41, .slice B41 m41 d41])) (some 104) (.tuple #[.agg #[.bool s42, .slice A42 n42 c42, .bool t42, .slice B42 m42 d42], .int .i64 C38])) (some 19) (.pointer (some ⟨g12_7, 0, none⟩))) (some 100) (.tuple #[.agg #[.bool s42, .slice A42 n42 c42, .bool t42, .slice B42 m42 d42], .int .i64 C38])) (some 105) (.agg #[.bool s42, .slice A42 n42 c42, .bool t42, .slice B42 m42 d42])) (some 106) (.int .i64 C38)) v := by
       intro s41 A41 n41 c41 t41 B41 m41 d41 s42 A42 n42 c42 t42 B42 m42 d42 g12_7 v HXj HZ2hr41j HZ2hs41j HZ3hr42j HZ3hs42j HPg12_7j HGg12_7j
       subst hF ha0 hL0
       simp only [PT] at  ⊢
       have hHeld := HS48.out _ HXj.out
       refine wpAnyH_ready (rs := [8]) (by kernel_rfl) (by simp) ?_
       refine .cons rfl (fun K hK => ?_) .nil
       have z49_0 := HPg12_7j.out.cell 0 rfl
       have y49_0 := HPg12_7j.out.frozen 0
       have z49_1 := HPg12_7j.out.cell 1 rfl
       have y49_1 := HPg12_7j.out.frozen 1
       have z49_2 := HPg12_7j.out.cell 2 rfl
       have y49_2 := HPg12_7j.out.frozen 2
       have z49_3 := HPg12_7j.out.cell 3 rfl
       have y49_3 := HPg12_7j.out.frozen 3
       have z49 := HPg12_7j.out.lt
       go_simp
       obtain ⟨v49, hV⟩ := nmz (World.setCell (World.setCell (World.setCell (World.setCell v ⟨g12_7, 0, none⟩ (.bool s42)) ⟨g12_7, 1, none⟩ (.slice A42 n42 c42)) ⟨g12_7, 2, none⟩ (.bool t42)) ⟨g12_7, 3, none⟩ (.slice B42 m42 d42))
       rw [hV]
       have HE49 := hJ (show sto v g12_7 0 [.bool s42, .slice A42 n42 c42, .bool t42, .slice B42 m42 d42] = v49 from hV)
       clear hV z49 z49_0 y49_0 z49_1 y49_1 z49_2 y49_2 z49_3 y49_3
       have HX49 := hJ (show Below v46.heap.size v46 v49 by rw [← HE49.out]; exact below_sto HXj.out HGg12_7j.out _ _)
       have HZ49_0 := hJ (show RN v49 s41 A41 n41 c41 ((k34 - 40)) by rw [← HE49.out]; exact RNo.sto HZ2hr41j.out HPg12_7j.out rfl _ _)
       have HZ49_1 := hJ (show RN v49 t41 B41 m41 d41 1 by rw [← HE49.out]; exact RNo.sto HZ2hs41j.out HPg12_7j.out rfl _ _)
       have HZ49_2 := hJ (show RN v49 s42 A42 n42 c42 P36 by rw [← HE49.out]; exact RNo.sto HZ3hr42j.out HPg12_7j.out rfl _ _)
       have HZ49_3 := hJ (show RN v49 t42 B42 m42 d42 Q37 by rw [← HE49.out]; exact RNo.sto HZ3hs42j.out HPg12_7j.out rfl _ _)
       have HP49g12_7 := hJ (show BX 41 v49 g12_7 #[.bool s42, .slice A42 n42 c42, .bool t42, .slice B42 m42 d42] by rw [← HE49.out]; exact BX.put HPg12_7j.out _ _)
       clear hHeld
       refine hK.out _ _ (HS48.out _ HX49.out) (fun hHeld => ?_)
       clear hK K
       try simp only [PT]
       refine tq 9 ?_
       try simp only [PT]
       refine wpAnyH_done (by kernel_rfl) ?_ _
       clear hHeld
       have HL50 := hJ (show g12_7 < v49.heap.size from HP49g12_7.out.lt)
       go_wp2_with fail
       refine (power_v 8190 8190 v49 rfl (by decide)).mono ?_
       rintro e w51 ⟨x43, s43, A43, n43, c43, rfl, hr43, hx43, hb⟩
       have HB51 := hJ hb
       have HR51hr43 := hJ hr43
       clear hb hr43
       have HNM43 := hJ hx43
       clear hx43
       go_wp2_with fail
       refine (of_any 3 w51 (by decide)).mono ?_
       rintro e w52 ⟨s44, A44, n44, c44, rfl, hr44, hb⟩
       have HB52 := hJ hb
       have HR52hr44 := hJ hr44
       clear hb hr44
       obtain ⟨P45, hP45⟩ := nmz (mkP x43 3)
       have HEP45 := hJ hP45
       clear hP45
       obtain ⟨Q46, hQ46⟩ := nmz (mkQ x43 3)
       have HEQ46 := hJ hQ46
       clear hQ46
       obtain ⟨C47, hC47⟩ := nmz (mkC 3)
       have HEC47 := hJ hC47
       clear hC47
       have HF48 := hJ (show Fr P45 Q46 by rw [← HEP45.out, ← HEQ46.out]; exact fr_mk (B2.lim (b2_pow HNM43.out) (by decide)) (i64_lim (x := 3) (by decide)))
       have HR51hr43w18 := hJ (RNo.new HR51hr43.out HB52.out)
       go_wp2_with fail
       refine (r4make_any x43 3 (32 * limE) s43 A43 n43 c43 s44 A44 n44 c44 w52 HR51hr43w18.out HR52hr44.out (by decide) (lim_b2 (B2.lim (b2_pow HNM43.out) (by decide))) (lim_b2 (i64_lim (x := 3) (by decide)))).mono ?_
       rw [HEP45.out, HEQ46.out, HEC47.out]
       rintro e w53 ⟨s49, A49, n49, c49, t49, B49, m49, d49, rfl, hr49, hs49, hb⟩
       have HB53 := hJ hb
       have HR53hr49 := hJ hr49
       have HR53hs49 := hJ hs49
       clear hb hr49 hs49
       obtain ⟨x54, hx54⟩ := nmz (w53.alloc (.cells #[.bool s49, .slice A49 n49 c49, .bool t49, .slice B49 m49 d49] 41))
       have HB54 := hJ (show Below w53.heap.size w53 x54 by rw [← hx54]; exact ((Below.refl _ _).alloc (Nat.le_refl _) _))
       have HQ54x0 := hJ (show BX 41 x54 w53.heap.size #[.bool s49, .slice A49 n49 c49, .bool t49, .slice B49 m49 d49] by rw [← hx54]; exact (BX.at rfl))
       have HG54x0 := hJ (show w53.heap.size ≤ w53.heap.size by omega)
       have HL54x0 := hJ (show w53.heap.size < x54.heap.size from HQ54x0.out.lt)
       obtain ⟨P52, hP52⟩ := nmz (muP P45 Q46 P45 Q46)
       have HEP52 := hJ hP52
       clear hP52
       obtain ⟨Q53, hQ53⟩ := nmz (muQ P45 Q46 P45 Q46)
       have HEQ53 := hJ hQ53
       clear hQ53
       obtain ⟨C54, hC54⟩ := nmz (muC P45 Q46 P45 Q46)
       have HEC54 := hJ hC54
       clear hC54
       have HF55 := hJ (show Fr P52 Q53 by rw [← HEP52.out, ← HEQ53.out]; exact fr_mu HF48.out HF48.out)
       have HS55 : Hid (∀ w', Below x54.heap.size x54 w' → (fun w' : World => w'.cell? ⟨w53.heap.size, 0, none⟩ = some (.bool s49) ∧ w'.cell? ⟨w53.heap.size, 1, none⟩ = some (.slice A49 n49 c49) ∧ w'.cell? ⟨w53.heap.size, 2, none⟩ = some (.bool t49) ∧ w'.cell? ⟨w53.heap.size, 3, none⟩ = some (.slice B49 m49 d49) ∧ Below x54.heap.size x54 w') w') := hJ (fun w' hb => ⟨(BX.new HQ54x0.out hb).cell 0 rfl, (BX.new HQ54x0.out hb).cell 1 rfl, (BX.new HQ54x0.out hb).cell 2 rfl, (BX.new HQ54x0.out hb).cell 3 rfl, hb⟩)
       have HR53hr49w20 := hJ (RNo.new HR53hr49.out HB54.out)
       have HR53hs49w20 := hJ (RNo.new HR53hs49.out HB54.out)
       go_wp2_with fail
       clear hx54
       obtain ⟨v55, hv55⟩ := nmz (World.drew x54)
       have HX55 := hJ (show Below x54.heap.size x54 v55 by rw [← hv55]; exact (Below.refl _ _).drew)
       refine wp_region_held_drew (S := (fun w' : World => w'.cell? ⟨w53.heap.size, 0, none⟩ = some (.bool s49) ∧ w'.cell? ⟨w53.heap.size, 1, none⟩ = some (.slice A49 n49 c49) ∧ w'.cell? ⟨w53.heap.size, 2, none⟩ = some (.bool t49) ∧ w'.cell? ⟨w53.heap.size, 3, none⟩ = some (.slice B49 m49 d49) ∧ Below x54.heap.size x54 w')) (by kernel_rfl) ?_ (fun hHeld => ?_)
       ·rw [hv55]
        exact HS55.out _ HX55.out
       rw [hv55] at hHeld ⊢
       clear hv55
       refine tq 0 ?_
       try simp only [PT]
       refine tq 2 ?_
       try simp only [PT]
       refine wpAnyH_name (fun F hF a0 ha0 L0 hL0 => ?_)
       have J14_1_3_4_8 : ∀ (s50 : Bool) (A50 : Option Addr) (n50 : Nat) (c50 : Nat) (t50 : Bool) (B50 : Option Addr) (m50 : Nat) (d50 : Nat) (s51 : Bool) (A51 : Option Addr) (n51 : Nat) (c51 : Nat) (t51 : Bool) (B51 : Option Addr) (m51 : Nat) (d51 : Nat) (s56 : Bool) (A56 : Option Addr) (n56 : Nat) (c56 : Nat) (t56 : Bool) (B56 : Option Addr) (m56 : Nat) (d56 : Nat) (g14_8 : Nat) (v : World), Hid (Below x54.heap.size x54 v) → Hid (PF v s50 A50 n50 c50 t50 B50 m50 d50 P45 Q46) → Hid (PF v s51 A51 n51 c51 t51 B51 m51 d51 P45 Q46) → Hid (PF v s56 A56 n56 c56 t56 B56 m56 d56 P52 Q53) → Hid (BX 35 v g14_8 #[.bool false, .slice none 0 0, .bool false, .slice none 0 0]) → Hid (x54.heap.size ≤ g14_8) → F 2 (Array.setIfInBounds (Array.setIfInBounds (Array.setIfInBounds (Array.setIfInBounds (Array.setIfInBounds (Array.setIfInBounds (Array.setIfInBounds L0 1 true) 3 true) 4 true) 8 true) 5 true) 6 true) 7 true) (Act.put (Act.put (Act.put (Act.put (Act.put (Act.put (Act.put a0 (some 115) (.agg #[.bool s50, .slice A50 n50 c50, .bool t50, .slice B50 m50 d50])) (some 117) (.agg #[.bool s51, .slice A51 n51 c51, .bool t51, .slice B51 m51 d51])) (some 118) (.tuple #[.agg #[.bool s56, .slice A56 n56 c56, .bool t56, .slice B56 m56 d56], .int .i64 C54])) (some 23) (.pointer (some ⟨g14_8, 0, none⟩))) (some 113) (.tuple #[.agg #[.bool s56, .slice A56 n56 c56, .bool t56, .slice B56 m56 d56], .int .i64 C54])) (some 119) (.agg #[.bool s56, .slice A56 n56 c56, .bool t56, .slice B56 m56 d56])) (some 120) (.int .i64 C54)) v := by
        intro s50 A50 n50 c50 t50 B50 m50 d50 s51 A51 n51 c51 t51 B51 m51 d51 s56 A56 n56 c56 t56 B56 m56 d56 g14_8 v HXj HZ1hr50j HZ3hr51j HZ4hr56j HPg14_8j HGg14_8j
        subst hF ha0 hL0
        simp only [PT] at  ⊢
        have hHeld := HS55.out _ HXj.out
        refine wpAnyH_ready (rs := [9]) (by kernel_rfl) (by simp) ?_
        refine .cons rfl (fun K hK => ?_) .nil
        have z56_0 := HPg14_8j.out.cell 0 rfl
        have y56_0 := HPg14_8j.out.frozen 0
        have z56_1 := HPg14_8j.out.cell 1 rfl
        have y56_1 := HPg14_8j.out.frozen 1
        have z56_2 := HPg14_8j.out.cell 2 rfl
        have y56_2 := HPg14_8j.out.frozen 2
        have z56_3 := HPg14_8j.out.cell 3 rfl
        have y56_3 := HPg14_8j.out.frozen 3
        have z56 := HPg14_8j.out.lt
        go_simp
        obtain ⟨v56, hV⟩ := nmz (World.setCell (World.setCell (World.setCell (World.setCell v ⟨g14_8, 0, none⟩ (.bool s56)) ⟨g14_8, 1, none⟩ (.slice A56 n56 c56)) ⟨g14_8, 2, none⟩ (.bool t56)) ⟨g14_8, 3, none⟩ (.slice B56 m56 d56))
        rw [hV]
        have HE56 := hJ (show sto v g14_8 0 [.bool s56, .slice A56 n56 c56, .bool t56, .slice B56 m56 d56] = v56 from hV)
        clear hV z56 z56_0 y56_0 z56_1 y56_1 z56_2 y56_2 z56_3 y56_3
        have HX56 := hJ (show Below x54.heap.size x54 v56 by rw [← HE56.out]; exact below_sto HXj.out HGg14_8j.out _ _)
        have HZ56_0 := hJ (show PF v56 s50 A50 n50 c50 t50 B50 m50 d50 P45 Q46 by rw [← HE56.out]; exact PF.sto HZ1hr50j.out HPg14_8j.out rfl _ _)
        have HZ56_1 := hJ (show PF v56 s51 A51 n51 c51 t51 B51 m51 d51 P45 Q46 by rw [← HE56.out]; exact PF.sto HZ3hr51j.out HPg14_8j.out rfl _ _)
        have HZ56_2 := hJ (show PF v56 s56 A56 n56 c56 t56 B56 m56 d56 P52 Q53 by rw [← HE56.out]; exact PF.sto HZ4hr56j.out HPg14_8j.out rfl _ _)
        have HP56g14_8 := hJ (show BX 35 v56 g14_8 #[.bool s56, .slice A56 n56 c56, .bool t56, .slice B56 m56 d56] by rw [← HE56.out]; exact BX.put HPg14_8j.out _ _)
        clear hHeld
        refine hK.out _ _ (HS55.out _ HX56.out) (fun hHeld => ?_)
        clear hK K
        try simp only [PT]
        refine tq 10 ?_
        try simp only [PT]
        refine wpAnyH_done (by kernel_rfl) ?_ _
        clear hHeld
        have HL57 := hJ (show g14_8 < v56.heap.size from HP56g14_8.out.lt)
        have HQ54x0w21 := hJ (BX.new HQ54x0.out HX56.out)
        obtain ⟨cl58, cl59, cl60, cl61⟩ := HQ54x0w21.out.c4 0 1 2 3 rfl rfl rfl rfl
        obtain ⟨cl62, cl63, cl64, cl65⟩ := HQ54x0w21.out.c4 0 1 2 3 rfl rfl rfl rfl
        have HR53hr49w21 := hJ (RNo.new HR53hr49w20.out HX56.out)
        have HR53hs49w21 := hJ (RNo.new HR53hs49w20.out HX56.out)
        go_wp2_with fail
        clear cl58 cl59 cl60 cl61 cl62 cl63 cl64 cl65
        refine (r4mul_any P45 Q46 P45 Q46 (32 * limE) s49 A49 n49 c49 t49 B49 m49 d49 s49 A49 n49 c49 t49 B49 m49 d49 v56 HR53hr49w21.out HR53hs49w21.out HR53hr49w21.out HR53hs49w21.out (by decide) (fr_rk HF48.out) (fr_rk HF48.out)).mono ?_
        rw [HEP52.out, HEQ53.out, HEC54.out]
        rintro e w66 ⟨s57, A57, n57, c57, t57, B57, m57, d57, rfl, hr57, hs57, hb⟩
        have HB66 := hJ hb
        have HR66hr57 := hJ hr57
        have HR66hs57 := hJ hs57
        clear hb hr57 hs57
        obtain ⟨x67, hx67⟩ := nmz (w66.alloc (.cells #[.bool s57, .slice A57 n57 c57, .bool t57, .slice B57 m57 d57] 41))
        have HB67 := hJ (show Below w66.heap.size w66 x67 by rw [← hx67]; exact ((Below.refl _ _).alloc (Nat.le_refl _) _))
        have HQ67x0 := hJ (show BX 41 x67 w66.heap.size #[.bool s57, .slice A57 n57 c57, .bool t57, .slice B57 m57 d57] by rw [← hx67]; exact (BX.at rfl))
        have HG67x0 := hJ (show w66.heap.size ≤ w66.heap.size by omega)
        have HL67x0 := hJ (show w66.heap.size < x67.heap.size from HQ67x0.out.lt)
        obtain ⟨P59, hP59⟩ := nmz (muP P52 Q53 ((k34 - 40)) 1)
        have HEP59 := hJ hP59
        clear hP59
        obtain ⟨Q60, hQ60⟩ := nmz (muQ P52 Q53 ((k34 - 40)) 1)
        have HEQ60 := hJ hQ60
        clear hQ60
        obtain ⟨C61, hC61⟩ := nmz (muC P52 Q53 ((k34 - 40)) 1)
        have HEC61 := hJ hC61
        clear hC61
        have HF62 := hJ (show Fr P59 Q60 by rw [← HEP59.out, ← HEQ60.out]; exact fr_mu HF55.out (fr_int (x := (k34 - 40)) HKW.out))
        have HC21_23 := hJ (bt HB66.out HB67.out)
        have HP56g14_8w23 := hJ (BX.new HP56g14_8.out HC21_23.out)
        have HS68 : Hid (∀ w', Below x67.heap.size x67 w' → (fun w' : World => w'.cell? ⟨g14_8, 0, none⟩ = some (.bool s56) ∧ w'.cell? ⟨g14_8, 1, none⟩ = some (.slice A56 n56 c56) ∧ w'.cell? ⟨g14_8, 2, none⟩ = some (.bool t56) ∧ w'.cell? ⟨g14_8, 3, none⟩ = some (.slice B56 m56 d56) ∧ Below x67.heap.size x67 w') w') := hJ (fun w' hb => ⟨(BX.new HP56g14_8w23.out hb).cell 0 rfl, (BX.new HP56g14_8w23.out hb).cell 1 rfl, (BX.new HP56g14_8w23.out hb).cell 2 rfl, (BX.new HP56g14_8w23.out hb).cell 3 rfl, hb⟩)
        have HZ56_2w23 := hJ (PF.new HZ56_2.out HC21_23.out)
        go_wp2_with fail
        clear hx67
        obtain ⟨v68, hv68⟩ := nmz (World.drew x67)
        have HX68 := hJ (show Below x67.heap.size x67 v68 by rw [← hv68]; exact (Below.refl _ _).drew)
        refine wp_region_held_drew (S := (fun w' : World => w'.cell? ⟨g14_8, 0, none⟩ = some (.bool s56) ∧ w'.cell? ⟨g14_8, 1, none⟩ = some (.slice A56 n56 c56) ∧ w'.cell? ⟨g14_8, 2, none⟩ = some (.bool t56) ∧ w'.cell? ⟨g14_8, 3, none⟩ = some (.slice B56 m56 d56) ∧ Below x67.heap.size x67 w')) (by kernel_rfl) ?_ (fun hHeld => ?_)
        ·rw [hv68]
         exact HS68.out _ HX68.out
        rw [hv68] at hHeld ⊢
        clear hv68
        refine tq 0 ?_
        try simp only [PT]
        refine tq 1 ?_
        try simp only [PT]
        refine wpAnyH_name (fun F hF a0 ha0 L0 hL0 => ?_)
        have J16_2_3_7 : ∀ (s58 : Bool) (A58 : Option Addr) (n58 : Nat) (c58 : Nat) (t58 : Bool) (B58 : Option Addr) (m58 : Nat) (d58 : Nat) (s63 : Bool) (A63 : Option Addr) (n63 : Nat) (c63 : Nat) (t63 : Bool) (B63 : Option Addr) (m63 : Nat) (d63 : Nat) (g16_7 : Nat) (v : World), Hid (Below x67.heap.size x67 v) → Hid (PF v s58 A58 n58 c58 t58 B58 m58 d58 ((k34 - 40)) 1) → Hid (PF v s63 A63 n63 c63 t63 B63 m63 d63 P59 Q60) → Hid (BX 35 v g16_7 #[.bool false, .slice none 0 0, .bool false, .slice none 0 0]) → Hid (x67.heap.size ≤ g16_7) → F 2 (Array.setIfInBounds (Array.setIfInBounds (Array.setIfInBounds (Array.setIfInBounds (Array.setIfInBounds (Array.setIfInBounds L0 2 true) 3 true) 7 true) 4 true) 5 true) 6 true) (Act.put (Act.put (Act.put (Act.put (Act.put (Act.put a0 (some 130) (.agg #[.bool s58, .slice A58 n58 c58, .bool t58, .slice B58 m58 d58])) (some 131) (.tuple #[.agg #[.bool s63, .slice A63 n63 c63, .bool t63, .slice B63 m63 d63], .int .i64 C61])) (some 27) (.pointer (some ⟨g16_7, 0, none⟩))) (some 127) (.tuple #[.agg #[.bool s63, .slice A63 n63 c63, .bool t63, .slice B63 m63 d63], .int .i64 C61])) (some 132) (.agg #[.bool s63, .slice A63 n63 c63, .bool t63, .slice B63 m63 d63])) (some 133) (.int .i64 C61)) v := by
         intro s58 A58 n58 c58 t58 B58 m58 d58 s63 A63 n63 c63 t63 B63 m63 d63 g16_7 v HXj HZ2hr58j HZ3hr63j HPg16_7j HGg16_7j
         subst hF ha0 hL0
         simp only [PT] at  ⊢
         have hHeld := HS68.out _ HXj.out
         refine wpAnyH_ready (rs := [8]) (by kernel_rfl) (by simp) ?_
         refine .cons rfl (fun K hK => ?_) .nil
         have z69_0 := HPg16_7j.out.cell 0 rfl
         have y69_0 := HPg16_7j.out.frozen 0
         have z69_1 := HPg16_7j.out.cell 1 rfl
         have y69_1 := HPg16_7j.out.frozen 1
         have z69_2 := HPg16_7j.out.cell 2 rfl
         have y69_2 := HPg16_7j.out.frozen 2
         have z69_3 := HPg16_7j.out.cell 3 rfl
         have y69_3 := HPg16_7j.out.frozen 3
         have z69 := HPg16_7j.out.lt
         go_simp
         obtain ⟨v69, hV⟩ := nmz (World.setCell (World.setCell (World.setCell (World.setCell v ⟨g16_7, 0, none⟩ (.bool s63)) ⟨g16_7, 1, none⟩ (.slice A63 n63 c63)) ⟨g16_7, 2, none⟩ (.bool t63)) ⟨g16_7, 3, none⟩ (.slice B63 m63 d63))
         rw [hV]
         have HE69 := hJ (show sto v g16_7 0 [.bool s63, .slice A63 n63 c63, .bool t63, .slice B63 m63 d63] = v69 from hV)
         clear hV z69 z69_0 y69_0 z69_1 y69_1 z69_2 y69_2 z69_3 y69_3
         have HX69 := hJ (show Below x67.heap.size x67 v69 by rw [← HE69.out]; exact below_sto HXj.out HGg16_7j.out _ _)
         have HZ69_0 := hJ (show PF v69 s58 A58 n58 c58 t58 B58 m58 d58 ((k34 - 40)) 1 by rw [← HE69.out]; exact PF.sto HZ2hr58j.out HPg16_7j.out rfl _ _)
         have HZ69_1 := hJ (show PF v69 s63 A63 n63 c63 t63 B63 m63 d63 P59 Q60 by rw [← HE69.out]; exact PF.sto HZ3hr63j.out HPg16_7j.out rfl _ _)
         have HP69g16_7 := hJ (show BX 35 v69 g16_7 #[.bool s63, .slice A63 n63 c63, .bool t63, .slice B63 m63 d63] by rw [← HE69.out]; exact BX.put HPg16_7j.out _ _)
         clear hHeld
         refine hK.out _ _ (HS68.out _ HX69.out) (fun hHeld => ?_)
         clear hK K
         try simp only [PT]
         refine tq 9 ?_
         try simp only [PT]
         refine wpAnyH_done (by kernel_rfl) ?_ _
         clear hHeld
         have HL70 := hJ (show g16_7 < v69.heap.size from HP69g16_7.out.lt)
         have HQ67x0w24 := hJ (BX.new HQ67x0.out HX69.out)
         have HS71 : Hid (∀ w', Below v69.heap.size v69 w' → (fun w' : World => w'.cell? ⟨w66.heap.size, 0, none⟩ = some (.bool s57) ∧ w'.cell? ⟨w66.heap.size, 1, none⟩ = some (.slice A57 n57 c57) ∧ w'.cell? ⟨w66.heap.size, 2, none⟩ = some (.bool t57) ∧ w'.cell? ⟨w66.heap.size, 3, none⟩ = some (.slice B57 m57 d57) ∧ Below v69.heap.size v69 w') w') := hJ (fun w' hb => ⟨(BX.new HQ67x0w24.out hb).cell 0 rfl, (BX.new HQ67x0w24.out hb).cell 1 rfl, (BX.new HQ67x0w24.out hb).cell 2 rfl, (BX.new HQ67x0w24.out hb).cell 3 rfl, hb⟩)
         have HC22_24 := hJ (bt HB67.out HX69.out)
         have HR66hr57w24 := hJ (RNo.new HR66hr57.out HC22_24.out)
         have HR66hs57w24 := hJ (RNo.new HR66hs57.out HC22_24.out)
         go_wp2_with fail
         obtain ⟨v71, hv71⟩ := nmz (World.drew v69)
         have HX71 := hJ (show Below v69.heap.size v69 v71 by rw [← hv71]; exact (Below.refl _ _).drew)
         refine wp_region_held_drew (S := (fun w' : World => w'.cell? ⟨w66.heap.size, 0, none⟩ = some (.bool s57) ∧ w'.cell? ⟨w66.heap.size, 1, none⟩ = some (.slice A57 n57 c57) ∧ w'.cell? ⟨w66.heap.size, 2, none⟩ = some (.bool t57) ∧ w'.cell? ⟨w66.heap.size, 3, none⟩ = some (.slice B57 m57 d57) ∧ Below v69.heap.size v69 w')) (by kernel_rfl) ?_ (fun hHeld => ?_)
         ·rw [hv71]
          exact HS71.out _ HX71.out
         rw [hv71] at hHeld ⊢
         clear hv71
         refine tq 0 ?_
         try simp only [PT]
         refine tq 1 ?_
         try simp only [PT]
         refine wpAnyH_name (fun F hF a0 ha0 L0 hL0 => ?_)
         have J17_2_3_7 : ∀ (s64 : Bool) (A64 : Option Addr) (n64 : Nat) (c64 : Nat) (t64 : Bool) (B64 : Option Addr) (m64 : Nat) (d64 : Nat) (s65 : Bool) (A65 : Option Addr) (n65 : Nat) (c65 : Nat) (t65 : Bool) (B65 : Option Addr) (m65 : Nat) (d65 : Nat) (g17_7 : Nat) (v : World), Hid (Below v69.heap.size v69 v) → Hid (RN v s64 A64 n64 c64 ((k34 - 40))) → Hid (RN v t64 B64 m64 d64 1) → Hid (RN v s65 A65 n65 c65 P59) → Hid (RN v t65 B65 m65 d65 Q60) → Hid (BX 41 v g17_7 #[.bool false, .slice none 0 0, .bool false, .slice none 0 0]) → Hid (v69.heap.size ≤ g17_7) → F 2 (Array.setIfInBounds (Array.setIfInBounds (Array.setIfInBounds (Array.setIfInBounds (Array.setIfInBounds (Array.setIfInBounds L0 2 true) 3 true) 7 true) 4 true) 5 true) 6 true) (Act.put (Act.put (Act.put (Act.put (Act.put (Act.put a0 (some 137) (.agg #[.bool s64, .slice A64 n64 c64, .bool t64, .slice B64 m64 d64])) (some 138) (.tuple #[.agg #[.bool s65, .slice A65 n65 c65, .bool t65, .slice B65 m65 d65], .int .i64 C61])) (some 29) (.pointer (some ⟨g17_7, 0, none⟩))) (some 134) (.tuple #[.agg #[.bool s65, .slice A65 n65 c65, .bool t65, .slice B65 m65 d65], .int .i64 C61])) (some 139) (.agg #[.bool s65, .slice A65 n65 c65, .bool t65, .slice B65 m65 d65])) (some 140) (.int .i64 C61)) v := by
          intro s64 A64 n64 c64 t64 B64 m64 d64 s65 A65 n65 c65 t65 B65 m65 d65 g17_7 v HXj HZ2hr64j HZ2hs64j HZ3hr65j HZ3hs65j HPg17_7j HGg17_7j
          subst hF ha0 hL0
          simp only [PT] at  ⊢
          have hHeld := HS71.out _ HXj.out
          refine wpAnyH_ready (rs := [8]) (by kernel_rfl) (by simp) ?_
          refine .cons rfl (fun K hK => ?_) .nil
          have z72_0 := HPg17_7j.out.cell 0 rfl
          have y72_0 := HPg17_7j.out.frozen 0
          have z72_1 := HPg17_7j.out.cell 1 rfl
          have y72_1 := HPg17_7j.out.frozen 1
          have z72_2 := HPg17_7j.out.cell 2 rfl
          have y72_2 := HPg17_7j.out.frozen 2
          have z72_3 := HPg17_7j.out.cell 3 rfl
          have y72_3 := HPg17_7j.out.frozen 3
          have z72 := HPg17_7j.out.lt
          go_simp
          obtain ⟨v72, hV⟩ := nmz (World.setCell (World.setCell (World.setCell (World.setCell v ⟨g17_7, 0, none⟩ (.bool s65)) ⟨g17_7, 1, none⟩ (.slice A65 n65 c65)) ⟨g17_7, 2, none⟩ (.bool t65)) ⟨g17_7, 3, none⟩ (.slice B65 m65 d65))
          rw [hV]
          have HE72 := hJ (show sto v g17_7 0 [.bool s65, .slice A65 n65 c65, .bool t65, .slice B65 m65 d65] = v72 from hV)
          clear hV z72 z72_0 y72_0 z72_1 y72_1 z72_2 y72_2 z72_3 y72_3
          have HX72 := hJ (show Below v69.heap.size v69 v72 by rw [← HE72.out]; exact below_sto HXj.out HGg17_7j.out _ _)
          have HZ72_0 := hJ (show RN v72 s64 A64 n64 c64 ((k34 - 40)) by rw [← HE72.out]; exact RNo.sto HZ2hr64j.out HPg17_7j.out rfl _ _)
          have HZ72_1 := hJ (show RN v72 t64 B64 m64 d64 1 by rw [← HE72.out]; exact RNo.sto HZ2hs64j.out HPg17_7j.out rfl _ _)
          have HZ72_2 := hJ (show RN v72 s65 A65 n65 c65 P59 by rw [← HE72.out]; exact RNo.sto HZ3hr65j.out HPg17_7j.out rfl _ _)
          have HZ72_3 := hJ (show RN v72 t65 B65 m65 d65 Q60 by rw [← HE72.out]; exact RNo.sto HZ3hs65j.out HPg17_7j.out rfl _ _)
          have HP72g17_7 := hJ (show BX 41 v72 g17_7 #[.bool s65, .slice A65 n65 c65, .bool t65, .slice B65 m65 d65] by rw [← HE72.out]; exact BX.put HPg17_7j.out _ _)
          clear hHeld
          refine hK.out _ _ (HS71.out _ HX72.out) (fun hHeld => ?_)
          clear hK K
          try simp only [PT]
          refine tq 9 ?_
          try simp only [PT]
          refine wpAnyH_done (by kernel_rfl) ?_ _
          clear hHeld
          have HL73 := hJ (show g17_7 < v72.heap.size from HP72g17_7.out.lt)
          obtain ⟨P67, hP67⟩ := nmz (dvP P27 Q28 ((k34 - 40)) 1)
          have HEP67 := hJ hP67
          clear hP67
          obtain ⟨Q68, hQ68⟩ := nmz (dvQ P27 Q28 ((k34 - 40)) 1)
          have HEQ68 := hJ hQ68
          clear hQ68
          obtain ⟨C69, hC69⟩ := nmz (dvC P27 Q28 ((k34 - 40)) 1)
          have HEC69 := hJ hC69
          clear hC69
          have HF70 := hJ (show Fr P67 Q68 by rw [← HEP67.out, ← HEQ68.out]; exact fr_dv HF30.out (fr_int (x := (k34 - 40)) HKW.out))
          have HC13_25 := hJ (bt (bt (bt (bt (bt (bt (bt (bt (bt (bt (bt HB43.out HX46.out) HX49.out) HB51.out) HB52.out) HB53.out) HB54.out) HX56.out) HB66.out) HB67.out) HX69.out) HX72.out)
          have HP21g6_7w25 := hJ (BX.new HP21g6_7w13.out HC13_25.out)
          have HS74 : Hid (∀ w', Below v72.heap.size v72 w' → (fun w' : World => w'.cell? ⟨g6_7, 0, none⟩ = some (.bool s31) ∧ w'.cell? ⟨g6_7, 1, none⟩ = some (.slice A31 n31 c31) ∧ w'.cell? ⟨g6_7, 2, none⟩ = some (.bool t31) ∧ w'.cell? ⟨g6_7, 3, none⟩ = some (.slice B31 m31 d31) ∧ Below v72.heap.size v72 w') w') := hJ (fun w' hb => ⟨(BX.new HP21g6_7w25.out hb).cell 0 rfl, (BX.new HP21g6_7w25.out hb).cell 1 rfl, (BX.new HP21g6_7w25.out hb).cell 2 rfl, (BX.new HP21g6_7w25.out hb).cell 3 rfl, hb⟩)
          have HZ21_2w25 := hJ (PF.new HZ21_2w13.out HC13_25.out)
          go_wp2_with fail
          obtain ⟨v74, hv74⟩ := nmz (World.drew v72)
          have HX74 := hJ (show Below v72.heap.size v72 v74 by rw [← hv74]; exact (Below.refl _ _).drew)
          refine wp_region_held_drew (S := (fun w' : World => w'.cell? ⟨g6_7, 0, none⟩ = some (.bool s31) ∧ w'.cell? ⟨g6_7, 1, none⟩ = some (.slice A31 n31 c31) ∧ w'.cell? ⟨g6_7, 2, none⟩ = some (.bool t31) ∧ w'.cell? ⟨g6_7, 3, none⟩ = some (.slice B31 m31 d31) ∧ Below v72.heap.size v72 w')) (by kernel_rfl) ?_ (fun hHeld => ?_)
          ·rw [hv74]
           exact HS74.out _ HX74.out
          rw [hv74] at hHeld ⊢
          clear hv74
          refine tq 0 ?_
          try simp only [PT]
          refine tq 1 ?_
          try simp only [PT]
          refine wpAnyH_name (fun F hF a0 ha0 L0 hL0 => ?_)
          have J18_2_3_7 : ∀ (s66 : Bool) (A66 : Option Addr) (n66 : Nat) (c66 : Nat) (t66 : Bool) (B66 : Option Addr) (m66 : Nat) (d66 : Nat) (s71 : Bool) (A71 : Option Addr) (n71 : Nat) (c71 : Nat) (t71 : Bool) (B71 : Option Addr) (m71 : Nat) (d71 : Nat) (g18_7 : Nat) (v : World), Hid (Below v72.heap.size v72 v) → Hid (PF v s66 A66 n66 c66 t66 B66 m66 d66 ((k34 - 40)) 1) → Hid (PF v s71 A71 n71 c71 t71 B71 m71 d71 P67 Q68) → Hid (BX 35 v g18_7 #[.bool false, .slice none 0 0, .bool false, .slice none 0 0]) → Hid (v72.heap.size ≤ g18_7) → F 2 (Array.setIfInBounds (Array.setIfInBounds (Array.setIfInBounds (Array.setIfInBounds (Array.setIfInBounds (Array.setIfInBounds L0 2 true) 3 true) 7 true) 4 true) 5 true) 6 true) (Act.put (Act.put (Act.put (Act.put (Act.put (Act.put a0 (some 144) (.agg #[.bool s66, .slice A66 n66 c66, .bool t66, .slice B66 m66 d66])) (some 145) (.tuple #[.agg #[.bool s71, .slice A71 n71 c71, .bool t71, .slice B71 m71 d71], .int .i64 C69])) (some 31) (.pointer (some ⟨g18_7, 0, none⟩))) (some 141) (.tuple #[.agg #[.bool s71, .slice A71 n71 c71, .bool t71, .slice B71 m71 d71], .int .i64 C69])) (some 146) (.agg #[.bool s71, .slice A71 n71 c71, .bool t71, .slice B71 m71 d71])) (some 147) (.int .i64 C69)) v := by
           intro s66 A66 n66 c66 t66 B66 m66 d66 s71 A71 n71 c71 t71 B71 m71 d71 g18_7 v HXj HZ2hr66j HZ3hr71j HPg18_7j HGg18_7j
           subst hF ha0 hL0
           simp only [PT] at  ⊢
           have hHeld := HS74.out _ HXj.out
           refine wpAnyH_ready (rs := [8]) (by kernel_rfl) (by simp) ?_
           refine .cons rfl (fun K hK => ?_) .nil
           have z75_0 := HPg18_7j.out.cell 0 rfl
           have y75_0 := HPg18_7j.out.frozen 0
           have z75_1 := HPg18_7j.out.cell 1 rfl
           have y75_1 := HPg18_7j.out.frozen 1
           have z75_2 := HPg18_7j.out.cell 2 rfl
           have y75_2 := HPg18_7j.out.frozen 2
           have z75_3 := HPg18_7j.out.cell 3 rfl
           have y75_3 := HPg18_7j.out.frozen 3
           have z75 := HPg18_7j.out.lt
           go_simp
           obtain ⟨v75, hV⟩ := nmz (World.setCell (World.setCell (World.setCell (World.setCell v ⟨g18_7, 0, none⟩ (.bool s71)) ⟨g18_7, 1, none⟩ (.slice A71 n71 c71)) ⟨g18_7, 2, none⟩ (.bool t71)) ⟨g18_7, 3, none⟩ (.slice B71 m71 d71))
           rw [hV]
           have HE75 := hJ (show sto v g18_7 0 [.bool s71, .slice A71 n71 c71, .bool t71, .slice B71 m71 d71] = v75 from hV)
           clear hV z75 z75_0 y75_0 z75_1 y75_1 z75_2 y75_2 z75_3 y75_3
           have HX75 := hJ (show Below v72.heap.size v72 v75 by rw [← HE75.out]; exact below_sto HXj.out HGg18_7j.out _ _)
           have HZ75_0 := hJ (show PF v75 s66 A66 n66 c66 t66 B66 m66 d66 ((k34 - 40)) 1 by rw [← HE75.out]; exact PF.sto HZ2hr66j.out HPg18_7j.out rfl _ _)
           have HZ75_1 := hJ (show PF v75 s71 A71 n71 c71 t71 B71 m71 d71 P67 Q68 by rw [← HE75.out]; exact PF.sto HZ3hr71j.out HPg18_7j.out rfl _ _)
           have HP75g18_7 := hJ (show BX 35 v75 g18_7 #[.bool s71, .slice A71 n71 c71, .bool t71, .slice B71 m71 d71] by rw [← HE75.out]; exact BX.put HPg18_7j.out _ _)
           clear hHeld
           refine hK.out _ _ (HS74.out _ HX75.out) (fun hHeld => ?_)
           clear hK K
           try simp only [PT]
           refine tq 9 ?_
           try simp only [PT]
           refine wpAnyH_done (by kernel_rfl) ?_ _
           clear hHeld
           have HL76 := hJ (show g18_7 < v75.heap.size from HP75g18_7.out.lt)
           have HC13_26 := hJ (bt HC13_25.out HX75.out)
           have HP24g7_6w26 := hJ (BX.new HP24g7_6w13.out HC13_26.out)
           have HS77 : Hid (∀ w', Below v75.heap.size v75 w' → (fun w' : World => w'.cell? ⟨g7_6, 0, none⟩ = some (.bool s33) ∧ w'.cell? ⟨g7_6, 1, none⟩ = some (.slice A33 n33 c33) ∧ w'.cell? ⟨g7_6, 2, none⟩ = some (.bool t33) ∧ w'.cell? ⟨g7_6, 3, none⟩ = some (.slice B33 m33 d33) ∧ Below v75.heap.size v75 w') w') := hJ (fun w' hb => ⟨(BX.new HP24g7_6w26.out hb).cell 0 rfl, (BX.new HP24g7_6w26.out hb).cell 1 rfl, (BX.new HP24g7_6w26.out hb).cell 2 rfl, (BX.new HP24g7_6w26.out hb).cell 3 rfl, hb⟩)
           have HZ24_1w26 := hJ (RNo.new HZ24_1w13.out HC13_26.out)
           have HZ24_2w26 := hJ (RNo.new HZ24_2w13.out HC13_26.out)
           go_wp2_with fail
           obtain ⟨v77, hv77⟩ := nmz (World.drew v75)
           have HX77 := hJ (show Below v75.heap.size v75 v77 by rw [← hv77]; exact (Below.refl _ _).drew)
           refine wp_region_held_drew (S := (fun w' : World => w'.cell? ⟨g7_6, 0, none⟩ = some (.bool s33) ∧ w'.cell? ⟨g7_6, 1, none⟩ = some (.slice A33 n33 c33) ∧ w'.cell? ⟨g7_6, 2, none⟩ = some (.bool t33) ∧ w'.cell? ⟨g7_6, 3, none⟩ = some (.slice B33 m33 d33) ∧ Below v75.heap.size v75 w')) (by kernel_rfl) ?_ (fun hHeld => ?_)
           ·rw [hv77]
            exact HS77.out _ HX77.out
           rw [hv77] at hHeld ⊢
           clear hv77
           refine tq 0 ?_
           try simp only [PT]
           refine tq 1 ?_
           try simp only [PT]
           refine wpAnyH_name (fun F hF a0 ha0 L0 hL0 => ?_)
           have J19_2_3_7 : ∀ (s72 : Bool) (A72 : Option Addr) (n72 : Nat) (c72 : Nat) (t72 : Bool) (B72 : Option Addr) (m72 : Nat) (d72 : Nat) (s73 : Bool) (A73 : Option Addr) (n73 : Nat) (c73 : Nat) (t73 : Bool) (B73 : Option Addr) (m73 : Nat) (d73 : Nat) (g19_7 : Nat) (v : World), Hid (Below v75.heap.size v75 v) → Hid (RN v s72 A72 n72 c72 ((k34 - 40))) → Hid (RN v t72 B72 m72 d72 1) → Hid (RN v s73 A73 n73 c73 P67) → Hid (RN v t73 B73 m73 d73 Q68) → Hid (BX 41 v g19_7 #[.bool false, .slice none 0 0, .bool false, .slice none 0 0]) → Hid (v75.heap.size ≤ g19_7) → F 2 (Array.setIfInBounds (Array.setIfInBounds (Array.setIfInBounds (Array.setIfInBounds (Array.setIfInBounds (Array.setIfInBounds L0 2 true) 3 true) 7 true) 4 true) 5 true) 6 true) (Act.put (Act.put (Act.put (Act.put (Act.put (Act.put a0 (some 151) (.agg #[.bool s72, .slice A72 n72 c72, .bool t72, .slice B72 m72 d72])) (some 152) (.tuple #[.agg #[.bool s73, .slice A73 n73 c73, .bool t73, .slice B73 m73 d73], .int .i64 C69])) (some 33) (.pointer (some ⟨g19_7, 0, none⟩))) (some 148) (.tuple #[.agg #[.bool s73, .slice A73 n73 c73, .bool t73, .slice B73 m73 d73], .int .i64 C69])) (some 153) (.agg #[.bool s73, .slice A73 n73 c73, .bool t73, .slice B73 m73 d73])) (some 154) (.int .i64 C69)) v := by
            intro s72 A72 n72 c72 t72 B72 m72 d72 s73 A73 n73 c73 t73 B73 m73 d73 g19_7 v HXj HZ2hr72j HZ2hs72j HZ3hr73j HZ3hs73j HPg19_7j HGg19_7j
            subst hF ha0 hL0
            simp only [PT] at  ⊢
            have hHeld := HS77.out _ HXj.out
            refine wpAnyH_ready (rs := [8]) (by kernel_rfl) (by simp) ?_
            refine .cons rfl (fun K hK => ?_) .nil
            have z78_0 := HPg19_7j.out.cell 0 rfl
            have y78_0 := HPg19_7j.out.frozen 0
            have z78_1 := HPg19_7j.out.cell 1 rfl
            have y78_1 := HPg19_7j.out.frozen 1
            have z78_2 := HPg19_7j.out.cell 2 rfl
            have y78_2 := HPg19_7j.out.frozen 2
            have z78_3 := HPg19_7j.out.cell 3 rfl
            have y78_3 := HPg19_7j.out.frozen 3
            have z78 := HPg19_7j.out.lt
            go_simp
            obtain ⟨v78, hV⟩ := nmz (World.setCell (World.setCell (World.setCell (World.setCell v ⟨g19_7, 0, none⟩ (.bool s73)) ⟨g19_7, 1, none⟩ (.slice A73 n73 c73)) ⟨g19_7, 2, none⟩ (.bool t73)) ⟨g19_7, 3, none⟩ (.slice B73 m73 d73))
            rw [hV]
            have HE78 := hJ (show sto v g19_7 0 [.bool s73, .slice A73 n73 c73, .bool t73, .slice B73 m73 d73] = v78 from hV)
            clear hV z78 z78_0 y78_0 z78_1 y78_1 z78_2 y78_2 z78_3 y78_3
            have HX78 := hJ (show Below v75.heap.size v75 v78 by rw [← HE78.out]; exact below_sto HXj.out HGg19_7j.out _ _)
            have HZ78_0 := hJ (show RN v78 s72 A72 n72 c72 ((k34 - 40)) by rw [← HE78.out]; exact RNo.sto HZ2hr72j.out HPg19_7j.out rfl _ _)
            have HZ78_1 := hJ (show RN v78 t72 B72 m72 d72 1 by rw [← HE78.out]; exact RNo.sto HZ2hs72j.out HPg19_7j.out rfl _ _)
            have HZ78_2 := hJ (show RN v78 s73 A73 n73 c73 P67 by rw [← HE78.out]; exact RNo.sto HZ3hr73j.out HPg19_7j.out rfl _ _)
            have HZ78_3 := hJ (show RN v78 t73 B73 m73 d73 Q68 by rw [← HE78.out]; exact RNo.sto HZ3hs73j.out HPg19_7j.out rfl _ _)
            have HP78g19_7 := hJ (show BX 41 v78 g19_7 #[.bool s73, .slice A73 n73 c73, .bool t73, .slice B73 m73 d73] by rw [← HE78.out]; exact BX.put HPg19_7j.out _ _)
            clear hHeld
            refine hK.out _ _ (HS77.out _ HX78.out) (fun hHeld => ?_)
            clear hK K
            try simp only [PT]
            refine tq 9 ?_
            try simp only [PT]
            refine wpAnyH_done (by kernel_rfl) ?_ _
            clear hHeld
            have HL79 := hJ (show g19_7 < v78.heap.size from HP78g19_7.out.lt)
            have HC15_27 := hJ (bt (bt (bt (bt (bt (bt (bt (bt (bt (bt (bt HX49.out HB51.out) HB52.out) HB53.out) HB54.out) HX56.out) HB66.out) HB67.out) HX69.out) HX72.out) HX75.out) HX78.out)
            have HP46g11_7w27 := hJ (BX.new HP46g11_7.out HC15_27.out)
            obtain ⟨cl80, cl81, cl82, cl83⟩ := HP46g11_7w27.out.c4 0 1 2 3 rfl rfl rfl rfl
            have HC16_27 := hJ (bt (bt (bt (bt (bt (bt (bt (bt (bt (bt HB51.out HB52.out) HB53.out) HB54.out) HX56.out) HB66.out) HB67.out) HX69.out) HX72.out) HX75.out) HX78.out)
            have HP49g12_7w27 := hJ (BX.new HP49g12_7.out HC16_27.out)
            obtain ⟨cl84, cl85, cl86, cl87⟩ := HP49g12_7w27.out.c4 0 1 2 3 rfl rfl rfl rfl
            have HZ46_1w27 := hJ (PF.new HZ46_1.out HC15_27.out)
            have HZ49_2w27 := hJ (RNo.new HZ49_2.out HC16_27.out)
            have HZ49_3w27 := hJ (RNo.new HZ49_3.out HC16_27.out)
            go_wp2_with fail
            clear cl80 cl81 cl82 cl83 cl84 cl85 cl86 cl87
            refine (l4same_any P36 Q37 P36 Q37 s40 t40 s42 t42 A40 B40 A42 B42 n40 c40 m40 d40 n42 c42 m42 d42 v78 HZ46_1w27.out HZ49_2w27.out HZ49_3w27.out HF39.out HF39.out.2.1 HF39.out.2.2).mono ?_
            rw [eqF_self]
            rintro e w88 ⟨rfl, hb⟩
            have HB88 := hJ hb
            clear hb
            have HC23_28 := hJ (bt (bt (bt (bt HX69.out HX72.out) HX75.out) HX78.out) HB88.out)
            have HP56g14_8w28 := hJ (BX.new HP56g14_8w23.out HC23_28.out)
            obtain ⟨cl89, cl90, cl91, cl92⟩ := HP56g14_8w28.out.c4 0 1 2 3 rfl rfl rfl rfl
            have HC24_28 := hJ (bt (bt (bt HX72.out HX75.out) HX78.out) HB88.out)
            have HQ67x0w28 := hJ (BX.new HQ67x0w24.out HC24_28.out)
            obtain ⟨cl93, cl94, cl95, cl96⟩ := HQ67x0w28.out.c4 0 1 2 3 rfl rfl rfl rfl
            have HZ56_2w28 := hJ (PF.new HZ56_2w23.out HC23_28.out)
            have HR66hr57w28 := hJ (RNo.new HR66hr57w24.out HC24_28.out)
            have HR66hs57w28 := hJ (RNo.new HR66hs57w24.out HC24_28.out)
            go_wp2_with fail
            clear cl89 cl90 cl91 cl92 cl93 cl94 cl95 cl96
            refine (l4same_any P52 Q53 P52 Q53 s56 t56 s57 t57 A56 B56 A57 B57 n56 c56 m56 d56 n57 c57 m57 d57 w88 HZ56_2w28.out HR66hr57w28.out HR66hs57w28.out HF55.out HF55.out.2.1 HF55.out.2.2).mono ?_
            rw [eqF_self]
            rintro e w97 ⟨rfl, hb⟩
            have HB97 := hJ hb
            clear hb
            have HC24_29 := hJ (bt HC24_28.out HB97.out)
            have HP69g16_7w29 := hJ (BX.new HP69g16_7.out HC24_29.out)
            obtain ⟨cl98, cl99, cl100, cl101⟩ := HP69g16_7w29.out.c4 0 1 2 3 rfl rfl rfl rfl
            have HC25_29 := hJ (bt (bt (bt HX75.out HX78.out) HB88.out) HB97.out)
            have HP72g17_7w29 := hJ (BX.new HP72g17_7.out HC25_29.out)
            obtain ⟨cl102, cl103, cl104, cl105⟩ := HP72g17_7w29.out.c4 0 1 2 3 rfl rfl rfl rfl
            have HZ69_1w29 := hJ (PF.new HZ69_1.out HC24_29.out)
            have HZ72_2w29 := hJ (RNo.new HZ72_2.out HC25_29.out)
            have HZ72_3w29 := hJ (RNo.new HZ72_3.out HC25_29.out)
            go_wp2_with fail
            clear cl98 cl99 cl100 cl101 cl102 cl103 cl104 cl105
            refine (l4same_any P59 Q60 P59 Q60 s63 t63 s65 t65 A63 B63 A65 B65 n63 c63 m63 d63 n65 c65 m65 d65 w97 HZ69_1w29.out HZ72_2w29.out HZ72_3w29.out HF62.out HF62.out.2.1 HF62.out.2.2).mono ?_
            rw [eqF_self]
            rintro e w106 ⟨rfl, hb⟩
            have HB106 := hJ hb
            clear hb
            have HC26_30 := hJ (bt (bt (bt HX78.out HB88.out) HB97.out) HB106.out)
            have HP75g18_7w30 := hJ (BX.new HP75g18_7.out HC26_30.out)
            obtain ⟨cl107, cl108, cl109, cl110⟩ := HP75g18_7w30.out.c4 0 1 2 3 rfl rfl rfl rfl
            have HC27_30 := hJ (bt (bt HB88.out HB97.out) HB106.out)
            have HP78g19_7w30 := hJ (BX.new HP78g19_7.out HC27_30.out)
            obtain ⟨cl111, cl112, cl113, cl114⟩ := HP78g19_7w30.out.c4 0 1 2 3 rfl rfl rfl rfl
            have HZ75_1w30 := hJ (PF.new HZ75_1.out HC26_30.out)
            have HZ78_2w30 := hJ (RNo.new HZ78_2.out HC27_30.out)
            have HZ78_3w30 := hJ (RNo.new HZ78_3.out HC27_30.out)
            go_wp2_with fail
            clear cl107 cl108 cl109 cl110 cl111 cl112 cl113 cl114
            refine (l4same_any P67 Q68 P67 Q68 s71 t71 s73 t73 A71 B71 A73 B73 n71 c71 m71 d71 n73 c73 m73 d73 w106 HZ75_1w30.out HZ78_2w30.out HZ78_3w30.out HF70.out HF70.out.2.1 HF70.out.2.2).mono ?_
            rw [eqF_self]
            rintro e w115 ⟨rfl, hb⟩
            have HB115 := hJ hb
            clear hb
            go_wp2_with fail
            refine (l4lives_any w115).mono ?_
            rintro e w116 ⟨rfl, hb⟩
            have HB116 := hJ hb
            clear hb
            have HC0_32 := hJ (bt (bt (bt (bt (bt (bt (bt (bt (bt (bt (bt (bt (bt (bt (bt (bt (bt (bt (bt (bt (bt (bt (bt (bt (bt (bt (bt HBX10_0.out HB13.out) HB14.out) HB15.out) HB16.out) HX18.out) HX21.out) HX24.out) HB34.out) HB43.out) HX46.out) HX49.out) HB51.out) HB52.out) HB53.out) HB54.out) HX56.out) HB66.out) HB67.out) HX69.out) HX72.out) HX75.out) HX78.out) HB88.out) HB97.out) HB106.out) HB115.out) HB116.out)
            go_wp2
            go_ret
            exact ⟨rfl, HC0_32.out⟩
           have J19_2_3 : ∀ (s72 : Bool) (A72 : Option Addr) (n72 : Nat) (c72 : Nat) (t72 : Bool) (B72 : Option Addr) (m72 : Nat) (d72 : Nat) (s73 : Bool) (A73 : Option Addr) (n73 : Nat) (c73 : Nat) (t73 : Bool) (B73 : Option Addr) (m73 : Nat) (d73 : Nat) (v : World), Hid (Below v75.heap.size v75 v) → Hid (RN v s72 A72 n72 c72 ((k34 - 40))) → Hid (RN v t72 B72 m72 d72 1) → Hid (RN v s73 A73 n73 c73 P67) → Hid (RN v t73 B73 m73 d73 Q68) → F 3 (Array.setIfInBounds (Array.setIfInBounds (Array.setIfInBounds (Array.setIfInBounds (Array.setIfInBounds L0 2 true) 3 true) 4 true) 5 true) 6 true) (Act.put (Act.put (Act.put (Act.put (Act.put a0 (some 151) (.agg #[.bool s72, .slice A72 n72 c72, .bool t72, .slice B72 m72 d72])) (some 152) (.tuple #[.agg #[.bool s73, .slice A73 n73 c73, .bool t73, .slice B73 m73 d73], .int .i64 C69])) (some 148) (.tuple #[.agg #[.bool s73, .slice A73 n73 c73, .bool t73, .slice B73 m73 d73], .int .i64 C69])) (some 153) (.agg #[.bool s73, .slice A73 n73 c73, .bool t73, .slice B73 m73 d73])) (some 154) (.int .i64 C69)) v := by
            intro s72 A72 n72 c72 t72 B72 m72 d72 s73 A73 n73 c73 t73 B73 m73 d73 v HXj HZ2hr72j HZ2hs72j HZ3hr73j HZ3hs73j
            subst hF ha0 hL0
            simp only [PT] at  ⊢
            have hHeld := HS77.out _ HXj.out
            refine wpAnyH_ready (rs := [7]) (by kernel_rfl) (by simp) ?_
            refine .cons rfl (fun K hK => ?_) .nil
            go_simp
            have HB117 := hJ ((Below.refl v.heap.size v).alloc (Nat.le_refl _) (.cells #[.bool false, .slice none 0 0, .bool false, .slice none 0 0] 41))
            have HP117 := hJ (BX.lit v 41 #[.bool false, .slice none 0 0, .bool false, .slice none 0 0])
            obtain ⟨v117, hV⟩ := nmz (World.alloc v (.cells #[.bool false, .slice none 0 0, .bool false, .slice none 0 0] 41))
            obtain ⟨g19_7, hg⟩ := nmz (v.heap.size)
            rw [hV] at HB117 HP117 ⊢
            rw [hg] at HP117 ⊢
            have HG117 := hJ (show v75.heap.size ≤ g19_7 by rw [← hg]; exact HXj.out.size)
            clear hV hg
            have HX117 := hJ (bt HXj.out HB117.out)
            have HZ117_0 := hJ (RNo.new HZ2hr72j.out HB117.out)
            have HZ117_1 := hJ (RNo.new HZ2hs72j.out HB117.out)
            have HZ117_2 := hJ (RNo.new HZ3hr73j.out HB117.out)
            have HZ117_3 := hJ (RNo.new HZ3hs73j.out HB117.out)
            clear hHeld
            refine hK.out _ _ (HS77.out _ HX117.out) (fun hHeld => ?_)
            clear hK K
            try simp only [PT]
            exact wpAnyH_cast2 (by kernel_rfl) (by kernel_rfl) (J19_2_3_7 s72 A72 n72 c72 t72 B72 m72 d72 s73 A73 n73 c73 t73 B73 m73 d73 g19_7 v117 HX117 HZ117_0 HZ117_1 HZ117_2 HZ117_3 HP117 HG117)
           have J19_2_7 : ∀ (s72 : Bool) (A72 : Option Addr) (n72 : Nat) (c72 : Nat) (t72 : Bool) (B72 : Option Addr) (m72 : Nat) (d72 : Nat) (g19_7 : Nat) (v : World), Hid (Below v75.heap.size v75 v) → Hid (RN v s72 A72 n72 c72 ((k34 - 40))) → Hid (RN v t72 B72 m72 d72 1) → Hid (BX 41 v g19_7 #[.bool false, .slice none 0 0, .bool false, .slice none 0 0]) → Hid (v75.heap.size ≤ g19_7) → F 6 (Array.setIfInBounds (Array.setIfInBounds L0 2 true) 7 true) (Act.put (Act.put a0 (some 151) (.agg #[.bool s72, .slice A72 n72 c72, .bool t72, .slice B72 m72 d72])) (some 33) (.pointer (some ⟨g19_7, 0, none⟩))) v := by
            intro s72 A72 n72 c72 t72 B72 m72 d72 g19_7 v HXj HZ2hr72j HZ2hs72j HPg19_7j HGg19_7j
            subst hF ha0 hL0
            simp only [PT] at  ⊢
            have hHeld := HS77.out _ HXj.out
            refine wpAnyH_ready (rs := [3]) (by kernel_rfl) (by simp) ?_
            refine .cons rfl (fun K hK => ?_) .nil
            go_simp
            go_at_call 40
            refine (r4div_any P27 Q28 ((k34 - 40)) 1 (32 * limE) s33 A33 n33 c33 t33 B33 m33 d33 s72 A72 n72 c72 t72 B72 m72 d72 v (RNo.new HZ24_1w26.out HXj.out) (RNo.new HZ24_2w26.out HXj.out) HZ2hr72j.out HZ2hs72j.out (by decide) (fr_rk HF30.out) (fr_rk (fr_int (x := (k34 - 40)) HKW.out))).mono ?_
            rw [HEP67.out, HEQ68.out, HEC69.out]
            rintro e v118 ⟨s73, A73, n73, c73, t73, B73, m73, d73, rfl, hr73, hs73, hb⟩
            have HB118 := hJ hb
            have HR118hr73 := hJ hr73
            have HR118hs73 := hJ hs73
            clear hb hr73 hs73
            go_wp2_with fail
            have HX118 := hJ (bt HXj.out HB118.out)
            have HZ118_0 := hJ (RNo.new HZ2hr72j.out HB118.out)
            have HZ118_1 := hJ (RNo.new HZ2hs72j.out HB118.out)
            have HP118g19_7 := hJ (BX.new HPg19_7j.out HB118.out)
            clear hHeld
            refine hK.out _ _ (HS77.out _ HX118.out) (fun hHeld => ?_)
            clear hK K
            try simp only [PT]
            refine tq 4 ?_
            try simp only [PT]
            refine tq 5 ?_
            try simp only [PT]
            refine tq 6 ?_
            try simp only [PT]
            exact wpAnyH_cast2 (by kernel_rfl) (by kernel_rfl) (J19_2_3_7 s72 A72 n72 c72 t72 B72 m72 d72 s73 A73 n73 c73 t73 B73 m73 d73 g19_7 v118 HX118 HZ118_0 HZ118_1 HR118hr73 HR118hs73 HP118g19_7 HGg19_7j)
           have J19_2 : ∀ (s72 : Bool) (A72 : Option Addr) (n72 : Nat) (c72 : Nat) (t72 : Bool) (B72 : Option Addr) (m72 : Nat) (d72 : Nat) (v : World), Hid (Below v75.heap.size v75 v) → Hid (RN v s72 A72 n72 c72 ((k34 - 40))) → Hid (RN v t72 B72 m72 d72 1) → F 7 (Array.setIfInBounds L0 2 true) (Act.put a0 (some 151) (.agg #[.bool s72, .slice A72 n72 c72, .bool t72, .slice B72 m72 d72])) v := by
            intro s72 A72 n72 c72 t72 B72 m72 d72 v HXj HZ2hr72j HZ2hs72j
            subst hF ha0 hL0
            simp only [PT] at  ⊢
            have hHeld := HS77.out _ HXj.out
            refine wpAnyH_ready (rs := [3, 7]) (by kernel_rfl) (by simp) ?_
            refine .cons rfl (fun K hK => ?_) ?_
            go_simp
            go_at_call 40
            refine (r4div_any P27 Q28 ((k34 - 40)) 1 (32 * limE) s33 A33 n33 c33 t33 B33 m33 d33 s72 A72 n72 c72 t72 B72 m72 d72 v (RNo.new HZ24_1w26.out HXj.out) (RNo.new HZ24_2w26.out HXj.out) HZ2hr72j.out HZ2hs72j.out (by decide) (fr_rk HF30.out) (fr_rk (fr_int (x := (k34 - 40)) HKW.out))).mono ?_
            rw [HEP67.out, HEQ68.out, HEC69.out]
            rintro e v119 ⟨s73, A73, n73, c73, t73, B73, m73, d73, rfl, hr73, hs73, hb⟩
            have HB119 := hJ hb
            have HR119hr73 := hJ hr73
            have HR119hs73 := hJ hs73
            clear hb hr73 hs73
            go_wp2_with fail
            have HX119 := hJ (bt HXj.out HB119.out)
            have HZ119_0 := hJ (RNo.new HZ2hr72j.out HB119.out)
            have HZ119_1 := hJ (RNo.new HZ2hs72j.out HB119.out)
            clear hHeld
            refine hK.out _ _ (HS77.out _ HX119.out) (fun hHeld => ?_)
            clear hK K
            try simp only [PT]
            refine tq 4 ?_
            try simp only [PT]
            refine tq 5 ?_
            try simp only [PT]
            refine tq 6 ?_
            try simp only [PT]
            exact wpAnyH_cast2 (by kernel_rfl) (by kernel_rfl) (J19_2_3 s72 A72 n72 c72 t72 B72 m72 d72 s73 A73 n73 c73 t73 B73 m73 d73 v119 HX119 HZ119_0 HZ119_1 HR119hr73 HR119hs73)
            refine .cons rfl (fun K hK => ?_) .nil
            go_simp
            have HB120 := hJ ((Below.refl v.heap.size v).alloc (Nat.le_refl _) (.cells #[.bool false, .slice none 0 0, .bool false, .slice none 0 0] 41))
            have HP120 := hJ (BX.lit v 41 #[.bool false, .slice none 0 0, .bool false, .slice none 0 0])
            obtain ⟨v120, hV⟩ := nmz (World.alloc v (.cells #[.bool false, .slice none 0 0, .bool false, .slice none 0 0] 41))
            obtain ⟨g19_7, hg⟩ := nmz (v.heap.size)
            rw [hV] at HB120 HP120 ⊢
            rw [hg] at HP120 ⊢
            have HG120 := hJ (show v75.heap.size ≤ g19_7 by rw [← hg]; exact HXj.out.size)
            clear hV hg
            have HX120 := hJ (bt HXj.out HB120.out)
            have HZ120_0 := hJ (RNo.new HZ2hr72j.out HB120.out)
            have HZ120_1 := hJ (RNo.new HZ2hs72j.out HB120.out)
            clear hHeld
            refine hK.out _ _ (HS77.out _ HX120.out) (fun hHeld => ?_)
            clear hK K
            try simp only [PT]
            exact wpAnyH_cast2 (by kernel_rfl) (by kernel_rfl) (J19_2_7 s72 A72 n72 c72 t72 B72 m72 d72 g19_7 v120 HX120 HZ120_0 HZ120_1 HP120 HG120)
           have J19_7 : ∀ (g19_7 : Nat) (v : World), Hid (Below v75.heap.size v75 v) → Hid (BX 41 v g19_7 #[.bool false, .slice none 0 0, .bool false, .slice none 0 0]) → Hid (v75.heap.size ≤ g19_7) → F 7 (Array.setIfInBounds L0 7 true) (Act.put a0 (some 33) (.pointer (some ⟨g19_7, 0, none⟩))) v := by
            intro g19_7 v HXj HPg19_7j HGg19_7j
            subst hF ha0 hL0
            simp only [PT] at  ⊢
            have hHeld := HS77.out _ HXj.out
            refine wpAnyH_ready (rs := [2]) (by kernel_rfl) (by simp) ?_
            refine .cons rfl (fun K hK => ?_) .nil
            go_simp
            go_at_call 28
            refine (r4of_any ((k34 - 40)) v HKW.out).mono ?_
            rintro e v121 ⟨s72, A72, n72, c72, t72, B72, m72, d72, rfl, hr72, hs72, hb⟩
            have HB121 := hJ hb
            have HR121hr72 := hJ hr72
            have HR121hs72 := hJ hs72
            clear hb hr72 hs72
            go_wp2_with fail
            have HX121 := hJ (bt HXj.out HB121.out)
            have HP121g19_7 := hJ (BX.new HPg19_7j.out HB121.out)
            clear hHeld
            refine hK.out _ _ (HS77.out _ HX121.out) (fun hHeld => ?_)
            clear hK K
            try simp only [PT]
            exact wpAnyH_cast2 (by kernel_rfl) (by kernel_rfl) (J19_2_7 s72 A72 n72 c72 t72 B72 m72 d72 g19_7 v121 HX121 HR121hr72 HR121hs72 HP121g19_7 HGg19_7j)
           subst hF ha0 hL0
           refine wpAnyH_ready (rs := [2, 7]) (by kernel_rfl) (by simp) ?_
           refine .cons rfl (fun K hK => ?_) ?_
           go_simp
           go_at_call 28
           refine (r4of_any ((k34 - 40)) v77 HKW.out).mono ?_
           rintro e v122 ⟨s72, A72, n72, c72, t72, B72, m72, d72, rfl, hr72, hs72, hb⟩
           have HB122 := hJ hb
           have HR122hr72 := hJ hr72
           have HR122hs72 := hJ hs72
           clear hb hr72 hs72
           go_wp2_with fail
           have HX122 := hJ (bt HX77.out HB122.out)
           clear hHeld
           refine hK.out _ _ (HS77.out _ HX122.out) (fun hHeld => ?_)
           clear hK K
           try simp only [PT]
           exact wpAnyH_cast2 (by kernel_rfl) (by kernel_rfl) (J19_2 s72 A72 n72 c72 t72 B72 m72 d72 v122 HX122 HR122hr72 HR122hs72)
           refine .cons rfl (fun K hK => ?_) .nil
           go_simp
           have HB123 := hJ ((Below.refl v77.heap.size v77).alloc (Nat.le_refl _) (.cells #[.bool false, .slice none 0 0, .bool false, .slice none 0 0] 41))
           have HP123 := hJ (BX.lit v77 41 #[.bool false, .slice none 0 0, .bool false, .slice none 0 0])
           obtain ⟨v123, hV⟩ := nmz (World.alloc v77 (.cells #[.bool false, .slice none 0 0, .bool false, .slice none 0 0] 41))
           obtain ⟨g19_7, hg⟩ := nmz (v77.heap.size)
           rw [hV] at HB123 HP123 ⊢
           rw [hg] at HP123 ⊢
           have HG123 := hJ (show v75.heap.size ≤ g19_7 by rw [← hg]; exact HX77.out.size)
           clear hV hg
           have HX123 := hJ (bt HX77.out HB123.out)
           clear hHeld
           refine hK.out _ _ (HS77.out _ HX123.out) (fun hHeld => ?_)
           clear hK K
           try simp only [PT]
           exact wpAnyH_cast2 (by kernel_rfl) (by kernel_rfl) (J19_7 g19_7 v123 HX123 HP123 HG123)
          have J18_2_3 : ∀ (s66 : Bool) (A66 : Option Addr) (n66 : Nat) (c66 : Nat) (t66 : Bool) (B66 : Option Addr) (m66 : Nat) (d66 : Nat) (s71 : Bool) (A71 : Option Addr) (n71 : Nat) (c71 : Nat) (t71 : Bool) (B71 : Option Addr) (m71 : Nat) (d71 : Nat) (v : World), Hid (Below v72.heap.size v72 v) → Hid (PF v s66 A66 n66 c66 t66 B66 m66 d66 ((k34 - 40)) 1) → Hid (PF v s71 A71 n71 c71 t71 B71 m71 d71 P67 Q68) → F 3 (Array.setIfInBounds (Array.setIfInBounds (Array.setIfInBounds (Array.setIfInBounds (Array.setIfInBounds L0 2 true) 3 true) 4 true) 5 true) 6 true) (Act.put (Act.put (Act.put (Act.put (Act.put a0 (some 144) (.agg #[.bool s66, .slice A66 n66 c66, .bool t66, .slice B66 m66 d66])) (some 145) (.tuple #[.agg #[.bool s71, .slice A71 n71 c71, .bool t71, .slice B71 m71 d71], .int .i64 C69])) (some 141) (.tuple #[.agg #[.bool s71, .slice A71 n71 c71, .bool t71, .slice B71 m71 d71], .int .i64 C69])) (some 146) (.agg #[.bool s71, .slice A71 n71 c71, .bool t71, .slice B71 m71 d71])) (some 147) (.int .i64 C69)) v := by
           intro s66 A66 n66 c66 t66 B66 m66 d66 s71 A71 n71 c71 t71 B71 m71 d71 v HXj HZ2hr66j HZ3hr71j
           subst hF ha0 hL0
           simp only [PT] at  ⊢
           have hHeld := HS74.out _ HXj.out
           refine wpAnyH_ready (rs := [7]) (by kernel_rfl) (by simp) ?_
           refine .cons rfl (fun K hK => ?_) .nil
           go_simp
           have HB124 := hJ ((Below.refl v.heap.size v).alloc (Nat.le_refl _) (.cells #[.bool false, .slice none 0 0, .bool false, .slice none 0 0] 35))
           have HP124 := hJ (BX.lit v 35 #[.bool false, .slice none 0 0, .bool false, .slice none 0 0])
           obtain ⟨v124, hV⟩ := nmz (World.alloc v (.cells #[.bool false, .slice none 0 0, .bool false, .slice none 0 0] 35))
           obtain ⟨g18_7, hg⟩ := nmz (v.heap.size)
           rw [hV] at HB124 HP124 ⊢
           rw [hg] at HP124 ⊢
           have HG124 := hJ (show v72.heap.size ≤ g18_7 by rw [← hg]; exact HXj.out.size)
           clear hV hg
           have HX124 := hJ (bt HXj.out HB124.out)
           have HZ124_0 := hJ (PF.new HZ2hr66j.out HB124.out)
           have HZ124_1 := hJ (PF.new HZ3hr71j.out HB124.out)
           clear hHeld
           refine hK.out _ _ (HS74.out _ HX124.out) (fun hHeld => ?_)
           clear hK K
           try simp only [PT]
           exact wpAnyH_cast2 (by kernel_rfl) (by kernel_rfl) (J18_2_3_7 s66 A66 n66 c66 t66 B66 m66 d66 s71 A71 n71 c71 t71 B71 m71 d71 g18_7 v124 HX124 HZ124_0 HZ124_1 HP124 HG124)
          have J18_2_7 : ∀ (s66 : Bool) (A66 : Option Addr) (n66 : Nat) (c66 : Nat) (t66 : Bool) (B66 : Option Addr) (m66 : Nat) (d66 : Nat) (g18_7 : Nat) (v : World), Hid (Below v72.heap.size v72 v) → Hid (PF v s66 A66 n66 c66 t66 B66 m66 d66 ((k34 - 40)) 1) → Hid (BX 35 v g18_7 #[.bool false, .slice none 0 0, .bool false, .slice none 0 0]) → Hid (v72.heap.size ≤ g18_7) → F 6 (Array.setIfInBounds (Array.setIfInBounds L0 2 true) 7 true) (Act.put (Act.put a0 (some 144) (.agg #[.bool s66, .slice A66 n66 c66, .bool t66, .slice B66 m66 d66])) (some 31) (.pointer (some ⟨g18_7, 0, none⟩))) v := by
           intro s66 A66 n66 c66 t66 B66 m66 d66 g18_7 v HXj HZ2hr66j HPg18_7j HGg18_7j
           subst hF ha0 hL0
           simp only [PT] at  ⊢
           have hHeld := HS74.out _ HXj.out
           refine wpAnyH_ready (rs := [3]) (by kernel_rfl) (by simp) ?_
           refine .cons rfl (fun K hK => ?_) .nil
           go_simp
           go_at_call 39
           refine (fdiv_any P27 Q28 ((k34 - 40)) 1 s31 t31 s66 t66 A31 B31 A66 B66 n31 c31 m31 d31 n66 c66 m66 d66 v (PF.new HZ21_2w25.out HXj.out) HZ2hr66j.out HF30.out.1.1 (fr_int (x := (k34 - 40)) HKW.out).1.1 HF30.out.2.1 HF30.out.2.2 (fr_int (x := (k34 - 40)) HKW.out).2.1 (fr_int (x := (k34 - 40)) HKW.out).2.2).mono ?_
           rw [HEP67.out, HEQ68.out, HEC69.out]
           rintro e v125 ⟨s71, A71, n71, c71, t71, B71, m71, d71, rfl, hr71, hb⟩
           have HB125 := hJ hb
           have HR125hr71 := hJ hr71
           clear hb hr71
           go_wp2_with fail
           have HX125 := hJ (bt HXj.out HB125.out)
           have HZ125_0 := hJ (PF.new HZ2hr66j.out HB125.out)
           have HP125g18_7 := hJ (BX.new HPg18_7j.out HB125.out)
           clear hHeld
           refine hK.out _ _ (HS74.out _ HX125.out) (fun hHeld => ?_)
           clear hK K
           try simp only [PT]
           refine tq 4 ?_
           try simp only [PT]
           refine tq 5 ?_
           try simp only [PT]
           refine tq 6 ?_
           try simp only [PT]
           exact wpAnyH_cast2 (by kernel_rfl) (by kernel_rfl) (J18_2_3_7 s66 A66 n66 c66 t66 B66 m66 d66 s71 A71 n71 c71 t71 B71 m71 d71 g18_7 v125 HX125 HZ125_0 HR125hr71 HP125g18_7 HGg18_7j)
          have J18_2 : ∀ (s66 : Bool) (A66 : Option Addr) (n66 : Nat) (c66 : Nat) (t66 : Bool) (B66 : Option Addr) (m66 : Nat) (d66 : Nat) (v : World), Hid (Below v72.heap.size v72 v) → Hid (PF v s66 A66 n66 c66 t66 B66 m66 d66 ((k34 - 40)) 1) → F 7 (Array.setIfInBounds L0 2 true) (Act.put a0 (some 144) (.agg #[.bool s66, .slice A66 n66 c66, .bool t66, .slice B66 m66 d66])) v := by
           intro s66 A66 n66 c66 t66 B66 m66 d66 v HXj HZ2hr66j
           subst hF ha0 hL0
           simp only [PT] at  ⊢
           have hHeld := HS74.out _ HXj.out
           refine wpAnyH_ready (rs := [3, 7]) (by kernel_rfl) (by simp) ?_
           refine .cons rfl (fun K hK => ?_) ?_
           go_simp
           go_at_call 39
           refine (fdiv_any P27 Q28 ((k34 - 40)) 1 s31 t31 s66 t66 A31 B31 A66 B66 n31 c31 m31 d31 n66 c66 m66 d66 v (PF.new HZ21_2w25.out HXj.out) HZ2hr66j.out HF30.out.1.1 (fr_int (x := (k34 - 40)) HKW.out).1.1 HF30.out.2.1 HF30.out.2.2 (fr_int (x := (k34 - 40)) HKW.out).2.1 (fr_int (x := (k34 - 40)) HKW.out).2.2).mono ?_
           rw [HEP67.out, HEQ68.out, HEC69.out]
           rintro e v126 ⟨s71, A71, n71, c71, t71, B71, m71, d71, rfl, hr71, hb⟩
           have HB126 := hJ hb
           have HR126hr71 := hJ hr71
           clear hb hr71
           go_wp2_with fail
           have HX126 := hJ (bt HXj.out HB126.out)
           have HZ126_0 := hJ (PF.new HZ2hr66j.out HB126.out)
           clear hHeld
           refine hK.out _ _ (HS74.out _ HX126.out) (fun hHeld => ?_)
           clear hK K
           try simp only [PT]
           refine tq 4 ?_
           try simp only [PT]
           refine tq 5 ?_
           try simp only [PT]
           refine tq 6 ?_
           try simp only [PT]
           exact wpAnyH_cast2 (by kernel_rfl) (by kernel_rfl) (J18_2_3 s66 A66 n66 c66 t66 B66 m66 d66 s71 A71 n71 c71 t71 B71 m71 d71 v126 HX126 HZ126_0 HR126hr71)
           refine .cons rfl (fun K hK => ?_) .nil
           go_simp
           have HB127 := hJ ((Below.refl v.heap.size v).alloc (Nat.le_refl _) (.cells #[.bool false, .slice none 0 0, .bool false, .slice none 0 0] 35))
           have HP127 := hJ (BX.lit v 35 #[.bool false, .slice none 0 0, .bool false, .slice none 0 0])
           obtain ⟨v127, hV⟩ := nmz (World.alloc v (.cells #[.bool false, .slice none 0 0, .bool false, .slice none 0 0] 35))
           obtain ⟨g18_7, hg⟩ := nmz (v.heap.size)
           rw [hV] at HB127 HP127 ⊢
           rw [hg] at HP127 ⊢
           have HG127 := hJ (show v72.heap.size ≤ g18_7 by rw [← hg]; exact HXj.out.size)
           clear hV hg
           have HX127 := hJ (bt HXj.out HB127.out)
           have HZ127_0 := hJ (PF.new HZ2hr66j.out HB127.out)
           clear hHeld
           refine hK.out _ _ (HS74.out _ HX127.out) (fun hHeld => ?_)
           clear hK K
           try simp only [PT]
           exact wpAnyH_cast2 (by kernel_rfl) (by kernel_rfl) (J18_2_7 s66 A66 n66 c66 t66 B66 m66 d66 g18_7 v127 HX127 HZ127_0 HP127 HG127)
          have J18_7 : ∀ (g18_7 : Nat) (v : World), Hid (Below v72.heap.size v72 v) → Hid (BX 35 v g18_7 #[.bool false, .slice none 0 0, .bool false, .slice none 0 0]) → Hid (v72.heap.size ≤ g18_7) → F 7 (Array.setIfInBounds L0 7 true) (Act.put a0 (some 31) (.pointer (some ⟨g18_7, 0, none⟩))) v := by
           intro g18_7 v HXj HPg18_7j HGg18_7j
           subst hF ha0 hL0
           simp only [PT] at  ⊢
           have hHeld := HS74.out _ HXj.out
           refine wpAnyH_ready (rs := [2]) (by kernel_rfl) (by simp) ?_
           refine .cons rfl (fun K hK => ?_) .nil
           go_simp
           go_at_call 27
           refine (l4whole_any ((k34 - 40)) v HKW.out).mono ?_
           rintro e v128 ⟨s66, A66, n66, c66, t66, B66, m66, d66, rfl, hr66, hb⟩
           have HB128 := hJ hb
           have HR128hr66 := hJ hr66
           clear hb hr66
           go_wp2_with fail
           have HX128 := hJ (bt HXj.out HB128.out)
           have HP128g18_7 := hJ (BX.new HPg18_7j.out HB128.out)
           clear hHeld
           refine hK.out _ _ (HS74.out _ HX128.out) (fun hHeld => ?_)
           clear hK K
           try simp only [PT]
           exact wpAnyH_cast2 (by kernel_rfl) (by kernel_rfl) (J18_2_7 s66 A66 n66 c66 t66 B66 m66 d66 g18_7 v128 HX128 HR128hr66 HP128g18_7 HGg18_7j)
          subst hF ha0 hL0
          refine wpAnyH_ready (rs := [2, 7]) (by kernel_rfl) (by simp) ?_
          refine .cons rfl (fun K hK => ?_) ?_
          go_simp
          go_at_call 27
          refine (l4whole_any ((k34 - 40)) v74 HKW.out).mono ?_
          rintro e v129 ⟨s66, A66, n66, c66, t66, B66, m66, d66, rfl, hr66, hb⟩
          have HB129 := hJ hb
          have HR129hr66 := hJ hr66
          clear hb hr66
          go_wp2_with fail
          have HX129 := hJ (bt HX74.out HB129.out)
          clear hHeld
          refine hK.out _ _ (HS74.out _ HX129.out) (fun hHeld => ?_)
          clear hK K
          try simp only [PT]
          exact wpAnyH_cast2 (by kernel_rfl) (by kernel_rfl) (J18_2 s66 A66 n66 c66 t66 B66 m66 d66 v129 HX129 HR129hr66)
          refine .cons rfl (fun K hK => ?_) .nil
          go_simp
          have HB130 := hJ ((Below.refl v74.heap.size v74).alloc (Nat.le_refl _) (.cells #[.bool false, .slice none 0 0, .bool false, .slice none 0 0] 35))
          have HP130 := hJ (BX.lit v74 35 #[.bool false, .slice none 0 0, .bool false, .slice none 0 0])
          obtain ⟨v130, hV⟩ := nmz (World.alloc v74 (.cells #[.bool false, .slice none 0 0, .bool false, .slice none 0 0] 35))
          obtain ⟨g18_7, hg⟩ := nmz (v74.heap.size)
          rw [hV] at HB130 HP130 ⊢
          rw [hg] at HP130 ⊢
          have HG130 := hJ (show v72.heap.size ≤ g18_7 by rw [← hg]; exact HX74.out.size)
          clear hV hg
          have HX130 := hJ (bt HX74.out HB130.out)
          clear hHeld
          refine hK.out _ _ (HS74.out _ HX130.out) (fun hHeld => ?_)
          clear hK K
          try simp only [PT]
          exact wpAnyH_cast2 (by kernel_rfl) (by kernel_rfl) (J18_7 g18_7 v130 HX130 HP130 HG130)
         have J17_2_3 : ∀ (s64 : Bool) (A64 : Option Addr) (n64 : Nat) (c64 : Nat) (t64 : Bool) (B64 : Option Addr) (m64 : Nat) (d64 : Nat) (s65 : Bool) (A65 : Option Addr) (n65 : Nat) (c65 : Nat) (t65 : Bool) (B65 : Option Addr) (m65 : Nat) (d65 : Nat) (v : World), Hid (Below v69.heap.size v69 v) → Hid (RN v s64 A64 n64 c64 ((k34 - 40))) → Hid (RN v t64 B64 m64 d64 1) → Hid (RN v s65 A65 n65 c65 P59) → Hid (RN v t65 B65 m65 d65 Q60) → F 3 (Array.setIfInBounds (Array.setIfInBounds (Array.setIfInBounds (Array.setIfInBounds (Array.setIfInBounds L0 2 true) 3 true) 4 true) 5 true) 6 true) (Act.put (Act.put (Act.put (Act.put (Act.put a0 (some 137) (.agg #[.bool s64, .slice A64 n64 c64, .bool t64, .slice B64 m64 d64])) (some 138) (.tuple #[.agg #[.bool s65, .slice A65 n65 c65, .bool t65, .slice B65 m65 d65], .int .i64 C61])) (some 134) (.tuple #[.agg #[.bool s65, .slice A65 n65 c65, .bool t65, .slice B65 m65 d65], .int .i64 C61])) (some 139) (.agg #[.bool s65, .slice A65 n65 c65, .bool t65, .slice B65 m65 d65])) (some 140) (.int .i64 C61)) v := by
          intro s64 A64 n64 c64 t64 B64 m64 d64 s65 A65 n65 c65 t65 B65 m65 d65 v HXj HZ2hr64j HZ2hs64j HZ3hr65j HZ3hs65j
          subst hF ha0 hL0
          simp only [PT] at  ⊢
          have hHeld := HS71.out _ HXj.out
          refine wpAnyH_ready (rs := [7]) (by kernel_rfl) (by simp) ?_
          refine .cons rfl (fun K hK => ?_) .nil
          go_simp
          have HB131 := hJ ((Below.refl v.heap.size v).alloc (Nat.le_refl _) (.cells #[.bool false, .slice none 0 0, .bool false, .slice none 0 0] 41))
          have HP131 := hJ (BX.lit v 41 #[.bool false, .slice none 0 0, .bool false, .slice none 0 0])
          obtain ⟨v131, hV⟩ := nmz (World.alloc v (.cells #[.bool false, .slice none 0 0, .bool false, .slice none 0 0] 41))
          obtain ⟨g17_7, hg⟩ := nmz (v.heap.size)
          rw [hV] at HB131 HP131 ⊢
          rw [hg] at HP131 ⊢
          have HG131 := hJ (show v69.heap.size ≤ g17_7 by rw [← hg]; exact HXj.out.size)
          clear hV hg
          have HX131 := hJ (bt HXj.out HB131.out)
          have HZ131_0 := hJ (RNo.new HZ2hr64j.out HB131.out)
          have HZ131_1 := hJ (RNo.new HZ2hs64j.out HB131.out)
          have HZ131_2 := hJ (RNo.new HZ3hr65j.out HB131.out)
          have HZ131_3 := hJ (RNo.new HZ3hs65j.out HB131.out)
          clear hHeld
          refine hK.out _ _ (HS71.out _ HX131.out) (fun hHeld => ?_)
          clear hK K
          try simp only [PT]
          exact wpAnyH_cast2 (by kernel_rfl) (by kernel_rfl) (J17_2_3_7 s64 A64 n64 c64 t64 B64 m64 d64 s65 A65 n65 c65 t65 B65 m65 d65 g17_7 v131 HX131 HZ131_0 HZ131_1 HZ131_2 HZ131_3 HP131 HG131)
         have J17_2_7 : ∀ (s64 : Bool) (A64 : Option Addr) (n64 : Nat) (c64 : Nat) (t64 : Bool) (B64 : Option Addr) (m64 : Nat) (d64 : Nat) (g17_7 : Nat) (v : World), Hid (Below v69.heap.size v69 v) → Hid (RN v s64 A64 n64 c64 ((k34 - 40))) → Hid (RN v t64 B64 m64 d64 1) → Hid (BX 41 v g17_7 #[.bool false, .slice none 0 0, .bool false, .slice none 0 0]) → Hid (v69.heap.size ≤ g17_7) → F 6 (Array.setIfInBounds (Array.setIfInBounds L0 2 true) 7 true) (Act.put (Act.put a0 (some 137) (.agg #[.bool s64, .slice A64 n64 c64, .bool t64, .slice B64 m64 d64])) (some 29) (.pointer (some ⟨g17_7, 0, none⟩))) v := by
          intro s64 A64 n64 c64 t64 B64 m64 d64 g17_7 v HXj HZ2hr64j HZ2hs64j HPg17_7j HGg17_7j
          subst hF ha0 hL0
          simp only [PT] at  ⊢
          have hHeld := HS71.out _ HXj.out
          refine wpAnyH_ready (rs := [3]) (by kernel_rfl) (by simp) ?_
          refine .cons rfl (fun K hK => ?_) .nil
          go_simp
          go_at_call 38
          refine (r4mul_any P52 Q53 ((k34 - 40)) 1 (32 * limE) s57 A57 n57 c57 t57 B57 m57 d57 s64 A64 n64 c64 t64 B64 m64 d64 v (RNo.new HR66hr57w24.out HXj.out) (RNo.new HR66hs57w24.out HXj.out) HZ2hr64j.out HZ2hs64j.out (by decide) (fr_rk HF55.out) (fr_rk (fr_int (x := (k34 - 40)) HKW.out))).mono ?_
          rw [HEP59.out, HEQ60.out, HEC61.out]
          rintro e v132 ⟨s65, A65, n65, c65, t65, B65, m65, d65, rfl, hr65, hs65, hb⟩
          have HB132 := hJ hb
          have HR132hr65 := hJ hr65
          have HR132hs65 := hJ hs65
          clear hb hr65 hs65
          go_wp2_with fail
          have HX132 := hJ (bt HXj.out HB132.out)
          have HZ132_0 := hJ (RNo.new HZ2hr64j.out HB132.out)
          have HZ132_1 := hJ (RNo.new HZ2hs64j.out HB132.out)
          have HP132g17_7 := hJ (BX.new HPg17_7j.out HB132.out)
          clear hHeld
          refine hK.out _ _ (HS71.out _ HX132.out) (fun hHeld => ?_)
          clear hK K
          try simp only [PT]
          refine tq 4 ?_
          try simp only [PT]
          refine tq 5 ?_
          try simp only [PT]
          refine tq 6 ?_
          try simp only [PT]
          exact wpAnyH_cast2 (by kernel_rfl) (by kernel_rfl) (J17_2_3_7 s64 A64 n64 c64 t64 B64 m64 d64 s65 A65 n65 c65 t65 B65 m65 d65 g17_7 v132 HX132 HZ132_0 HZ132_1 HR132hr65 HR132hs65 HP132g17_7 HGg17_7j)
         have J17_2 : ∀ (s64 : Bool) (A64 : Option Addr) (n64 : Nat) (c64 : Nat) (t64 : Bool) (B64 : Option Addr) (m64 : Nat) (d64 : Nat) (v : World), Hid (Below v69.heap.size v69 v) → Hid (RN v s64 A64 n64 c64 ((k34 - 40))) → Hid (RN v t64 B64 m64 d64 1) → F 7 (Array.setIfInBounds L0 2 true) (Act.put a0 (some 137) (.agg #[.bool s64, .slice A64 n64 c64, .bool t64, .slice B64 m64 d64])) v := by
          intro s64 A64 n64 c64 t64 B64 m64 d64 v HXj HZ2hr64j HZ2hs64j
          subst hF ha0 hL0
          simp only [PT] at  ⊢
          have hHeld := HS71.out _ HXj.out
          refine wpAnyH_ready (rs := [3, 7]) (by kernel_rfl) (by simp) ?_
          refine .cons rfl (fun K hK => ?_) ?_
          go_simp
          go_at_call 38
          refine (r4mul_any P52 Q53 ((k34 - 40)) 1 (32 * limE) s57 A57 n57 c57 t57 B57 m57 d57 s64 A64 n64 c64 t64 B64 m64 d64 v (RNo.new HR66hr57w24.out HXj.out) (RNo.new HR66hs57w24.out HXj.out) HZ2hr64j.out HZ2hs64j.out (by decide) (fr_rk HF55.out) (fr_rk (fr_int (x := (k34 - 40)) HKW.out))).mono ?_
          rw [HEP59.out, HEQ60.out, HEC61.out]
          rintro e v133 ⟨s65, A65, n65, c65, t65, B65, m65, d65, rfl, hr65, hs65, hb⟩
          have HB133 := hJ hb
          have HR133hr65 := hJ hr65
          have HR133hs65 := hJ hs65
          clear hb hr65 hs65
          go_wp2_with fail
          have HX133 := hJ (bt HXj.out HB133.out)
          have HZ133_0 := hJ (RNo.new HZ2hr64j.out HB133.out)
          have HZ133_1 := hJ (RNo.new HZ2hs64j.out HB133.out)
          clear hHeld
          refine hK.out _ _ (HS71.out _ HX133.out) (fun hHeld => ?_)
          clear hK K
          try simp only [PT]
          refine tq 4 ?_
          try simp only [PT]
          refine tq 5 ?_
          try simp only [PT]
          refine tq 6 ?_
          try simp only [PT]
          exact wpAnyH_cast2 (by kernel_rfl) (by kernel_rfl) (J17_2_3 s64 A64 n64 c64 t64 B64 m64 d64 s65 A65 n65 c65 t65 B65 m65 d65 v133 HX133 HZ133_0 HZ133_1 HR133hr65 HR133hs65)
          refine .cons rfl (fun K hK => ?_) .nil
          go_simp
          have HB134 := hJ ((Below.refl v.heap.size v).alloc (Nat.le_refl _) (.cells #[.bool false, .slice none 0 0, .bool false, .slice none 0 0] 41))
          have HP134 := hJ (BX.lit v 41 #[.bool false, .slice none 0 0, .bool false, .slice none 0 0])
          obtain ⟨v134, hV⟩ := nmz (World.alloc v (.cells #[.bool false, .slice none 0 0, .bool false, .slice none 0 0] 41))
          obtain ⟨g17_7, hg⟩ := nmz (v.heap.size)
          rw [hV] at HB134 HP134 ⊢
          rw [hg] at HP134 ⊢
          have HG134 := hJ (show v69.heap.size ≤ g17_7 by rw [← hg]; exact HXj.out.size)
          clear hV hg
          have HX134 := hJ (bt HXj.out HB134.out)
          have HZ134_0 := hJ (RNo.new HZ2hr64j.out HB134.out)
          have HZ134_1 := hJ (RNo.new HZ2hs64j.out HB134.out)
          clear hHeld
          refine hK.out _ _ (HS71.out _ HX134.out) (fun hHeld => ?_)
          clear hK K
          try simp only [PT]
          exact wpAnyH_cast2 (by kernel_rfl) (by kernel_rfl) (J17_2_7 s64 A64 n64 c64 t64 B64 m64 d64 g17_7 v134 HX134 HZ134_0 HZ134_1 HP134 HG134)
         have J17_7 : ∀ (g17_7 : Nat) (v : World), Hid (Below v69.heap.size v69 v) → Hid (BX 41 v g17_7 #[.bool false, .slice none 0 0, .bool false, .slice none 0 0]) → Hid (v69.heap.size ≤ g17_7) → F 7 (Array.setIfInBounds L0 7 true) (Act.put a0 (some 29) (.pointer (some ⟨g17_7, 0, none⟩))) v := by
          intro g17_7 v HXj HPg17_7j HGg17_7j
          subst hF ha0 hL0
          simp only [PT] at  ⊢
          have hHeld := HS71.out _ HXj.out
          refine wpAnyH_ready (rs := [2]) (by kernel_rfl) (by simp) ?_
          refine .cons rfl (fun K hK => ?_) .nil
          go_simp
          go_at_call 28
          refine (r4of_any ((k34 - 40)) v HKW.out).mono ?_
          rintro e v135 ⟨s64, A64, n64, c64, t64, B64, m64, d64, rfl, hr64, hs64, hb⟩
          have HB135 := hJ hb
          have HR135hr64 := hJ hr64
          have HR135hs64 := hJ hs64
          clear hb hr64 hs64
          go_wp2_with fail
          have HX135 := hJ (bt HXj.out HB135.out)
          have HP135g17_7 := hJ (BX.new HPg17_7j.out HB135.out)
          clear hHeld
          refine hK.out _ _ (HS71.out _ HX135.out) (fun hHeld => ?_)
          clear hK K
          try simp only [PT]
          exact wpAnyH_cast2 (by kernel_rfl) (by kernel_rfl) (J17_2_7 s64 A64 n64 c64 t64 B64 m64 d64 g17_7 v135 HX135 HR135hr64 HR135hs64 HP135g17_7 HGg17_7j)
         subst hF ha0 hL0
         refine wpAnyH_ready (rs := [2, 7]) (by kernel_rfl) (by simp) ?_
         refine .cons rfl (fun K hK => ?_) ?_
         go_simp
         go_at_call 28
         refine (r4of_any ((k34 - 40)) v71 HKW.out).mono ?_
         rintro e v136 ⟨s64, A64, n64, c64, t64, B64, m64, d64, rfl, hr64, hs64, hb⟩
         have HB136 := hJ hb
         have HR136hr64 := hJ hr64
         have HR136hs64 := hJ hs64
         clear hb hr64 hs64
         go_wp2_with fail
         have HX136 := hJ (bt HX71.out HB136.out)
         clear hHeld
         refine hK.out _ _ (HS71.out _ HX136.out) (fun hHeld => ?_)
         clear hK K
         try simp only [PT]
         exact wpAnyH_cast2 (by kernel_rfl) (by kernel_rfl) (J17_2 s64 A64 n64 c64 t64 B64 m64 d64 v136 HX136 HR136hr64 HR136hs64)
         refine .cons rfl (fun K hK => ?_) .nil
         go_simp
         have HB137 := hJ ((Below.refl v71.heap.size v71).alloc (Nat.le_refl _) (.cells #[.bool false, .slice none 0 0, .bool false, .slice none 0 0] 41))
         have HP137 := hJ (BX.lit v71 41 #[.bool false, .slice none 0 0, .bool false, .slice none 0 0])
         obtain ⟨v137, hV⟩ := nmz (World.alloc v71 (.cells #[.bool false, .slice none 0 0, .bool false, .slice none 0 0] 41))
         obtain ⟨g17_7, hg⟩ := nmz (v71.heap.size)
         rw [hV] at HB137 HP137 ⊢
         rw [hg] at HP137 ⊢
         have HG137 := hJ (show v69.heap.size ≤ g17_7 by rw [← hg]; exact HX71.out.size)
         clear hV hg
         have HX137 := hJ (bt HX71.out HB137.out)
         clear hHeld
         refine hK.out _ _ (HS71.out _ HX137.out) (fun hHeld => ?_)
         clear hK K
         try simp only [PT]
         exact wpAnyH_cast2 (by kernel_rfl) (by kernel_rfl) (J17_7 g17_7 v137 HX137 HP137 HG137)
        have J16_2_3 : ∀ (s58 : Bool) (A58 : Option Addr) (n58 : Nat) (c58 : Nat) (t58 : Bool) (B58 : Option Addr) (m58 : Nat) (d58 : Nat) (s63 : Bool) (A63 : Option Addr) (n63 : Nat) (c63 : Nat) (t63 : Bool) (B63 : Option Addr) (m63 : Nat) (d63 : Nat) (v : World), Hid (Below x67.heap.size x67 v) → Hid (PF v s58 A58 n58 c58 t58 B58 m58 d58 ((k34 - 40)) 1) → Hid (PF v s63 A63 n63 c63 t63 B63 m63 d63 P59 Q60) → F 3 (Array.setIfInBounds (Array.setIfInBounds (Array.setIfInBounds (Array.setIfInBounds (Array.setIfInBounds L0 2 true) 3 true) 4 true) 5 true) 6 true) (Act.put (Act.put (Act.put (Act.put (Act.put a0 (some 130) (.agg #[.bool s58, .slice A58 n58 c58, .bool t58, .slice B58 m58 d58])) (some 131) (.tuple #[.agg #[.bool s63, .slice A63 n63 c63, .bool t63, .slice B63 m63 d63], .int .i64 C61])) (some 127) (.tuple #[.agg #[.bool s63, .slice A63 n63 c63, .bool t63, .slice B63 m63 d63], .int .i64 C61])) (some 132) (.agg #[.bool s63, .slice A63 n63 c63, .bool t63, .slice B63 m63 d63])) (some 133) (.int .i64 C61)) v := by
         intro s58 A58 n58 c58 t58 B58 m58 d58 s63 A63 n63 c63 t63 B63 m63 d63 v HXj HZ2hr58j HZ3hr63j
         subst hF ha0 hL0
         simp only [PT] at  ⊢
         have hHeld := HS68.out _ HXj.out
         refine wpAnyH_ready (rs := [7]) (by kernel_rfl) (by simp) ?_
         refine .cons rfl (fun K hK => ?_) .nil
         go_simp
         have HB138 := hJ ((Below.refl v.heap.size v).alloc (Nat.le_refl _) (.cells #[.bool false, .slice none 0 0, .bool false, .slice none 0 0] 35))
         have HP138 := hJ (BX.lit v 35 #[.bool false, .slice none 0 0, .bool false, .slice none 0 0])
         obtain ⟨v138, hV⟩ := nmz (World.alloc v (.cells #[.bool false, .slice none 0 0, .bool false, .slice none 0 0] 35))
         obtain ⟨g16_7, hg⟩ := nmz (v.heap.size)
         rw [hV] at HB138 HP138 ⊢
         rw [hg] at HP138 ⊢
         have HG138 := hJ (show x67.heap.size ≤ g16_7 by rw [← hg]; exact HXj.out.size)
         clear hV hg
         have HX138 := hJ (bt HXj.out HB138.out)
         have HZ138_0 := hJ (PF.new HZ2hr58j.out HB138.out)
         have HZ138_1 := hJ (PF.new HZ3hr63j.out HB138.out)
         clear hHeld
         refine hK.out _ _ (HS68.out _ HX138.out) (fun hHeld => ?_)
         clear hK K
         try simp only [PT]
         exact wpAnyH_cast2 (by kernel_rfl) (by kernel_rfl) (J16_2_3_7 s58 A58 n58 c58 t58 B58 m58 d58 s63 A63 n63 c63 t63 B63 m63 d63 g16_7 v138 HX138 HZ138_0 HZ138_1 HP138 HG138)
        have J16_2_7 : ∀ (s58 : Bool) (A58 : Option Addr) (n58 : Nat) (c58 : Nat) (t58 : Bool) (B58 : Option Addr) (m58 : Nat) (d58 : Nat) (g16_7 : Nat) (v : World), Hid (Below x67.heap.size x67 v) → Hid (PF v s58 A58 n58 c58 t58 B58 m58 d58 ((k34 - 40)) 1) → Hid (BX 35 v g16_7 #[.bool false, .slice none 0 0, .bool false, .slice none 0 0]) → Hid (x67.heap.size ≤ g16_7) → F 6 (Array.setIfInBounds (Array.setIfInBounds L0 2 true) 7 true) (Act.put (Act.put a0 (some 130) (.agg #[.bool s58, .slice A58 n58 c58, .bool t58, .slice B58 m58 d58])) (some 27) (.pointer (some ⟨g16_7, 0, none⟩))) v := by
         intro s58 A58 n58 c58 t58 B58 m58 d58 g16_7 v HXj HZ2hr58j HPg16_7j HGg16_7j
         subst hF ha0 hL0
         simp only [PT] at  ⊢
         have hHeld := HS68.out _ HXj.out
         refine wpAnyH_ready (rs := [3]) (by kernel_rfl) (by simp) ?_
         refine .cons rfl (fun K hK => ?_) .nil
         go_simp
         go_at_call 37
         refine (fmul_any P52 Q53 ((k34 - 40)) 1 s56 t56 s58 t58 A56 B56 A58 B58 n56 c56 m56 d56 n58 c58 m58 d58 v (PF.new HZ56_2w23.out HXj.out) HZ2hr58j.out HF55.out.1.1 (fr_int (x := (k34 - 40)) HKW.out).1.1 HF55.out.2.1 HF55.out.2.2 (fr_int (x := (k34 - 40)) HKW.out).2.1 (fr_int (x := (k34 - 40)) HKW.out).2.2).mono ?_
         rw [HEP59.out, HEQ60.out, HEC61.out]
         rintro e v139 ⟨s63, A63, n63, c63, t63, B63, m63, d63, rfl, hr63, hb⟩
         have HB139 := hJ hb
         have HR139hr63 := hJ hr63
         clear hb hr63
         go_wp2_with fail
         have HX139 := hJ (bt HXj.out HB139.out)
         have HZ139_0 := hJ (PF.new HZ2hr58j.out HB139.out)
         have HP139g16_7 := hJ (BX.new HPg16_7j.out HB139.out)
         clear hHeld
         refine hK.out _ _ (HS68.out _ HX139.out) (fun hHeld => ?_)
         clear hK K
         try simp only [PT]
         refine tq 4 ?_
         try simp only [PT]
         refine tq 5 ?_
         try simp only [PT]
         refine tq 6 ?_
         try simp only [PT]
         exact wpAnyH_cast2 (by kernel_rfl) (by kernel_rfl) (J16_2_3_7 s58 A58 n58 c58 t58 B58 m58 d58 s63 A63 n63 c63 t63 B63 m63 d63 g16_7 v139 HX139 HZ139_0 HR139hr63 HP139g16_7 HGg16_7j)
        have J16_2 : ∀ (s58 : Bool) (A58 : Option Addr) (n58 : Nat) (c58 : Nat) (t58 : Bool) (B58 : Option Addr) (m58 : Nat) (d58 : Nat) (v : World), Hid (Below x67.heap.size x67 v) → Hid (PF v s58 A58 n58 c58 t58 B58 m58 d58 ((k34 - 40)) 1) → F 7 (Array.setIfInBounds L0 2 true) (Act.put a0 (some 130) (.agg #[.bool s58, .slice A58 n58 c58, .bool t58, .slice B58 m58 d58])) v := by
         intro s58 A58 n58 c58 t58 B58 m58 d58 v HXj HZ2hr58j
         subst hF ha0 hL0
         simp only [PT] at  ⊢
         have hHeld := HS68.out _ HXj.out
         refine wpAnyH_ready (rs := [3, 7]) (by kernel_rfl) (by simp) ?_
         refine .cons rfl (fun K hK => ?_) ?_
         go_simp
         go_at_call 37
         refine (fmul_any P52 Q53 ((k34 - 40)) 1 s56 t56 s58 t58 A56 B56 A58 B58 n56 c56 m56 d56 n58 c58 m58 d58 v (PF.new HZ56_2w23.out HXj.out) HZ2hr58j.out HF55.out.1.1 (fr_int (x := (k34 - 40)) HKW.out).1.1 HF55.out.2.1 HF55.out.2.2 (fr_int (x := (k34 - 40)) HKW.out).2.1 (fr_int (x := (k34 - 40)) HKW.out).2.2).mono ?_
         rw [HEP59.out, HEQ60.out, HEC61.out]
         rintro e v140 ⟨s63, A63, n63, c63, t63, B63, m63, d63, rfl, hr63, hb⟩
         have HB140 := hJ hb
         have HR140hr63 := hJ hr63
         clear hb hr63
         go_wp2_with fail
         have HX140 := hJ (bt HXj.out HB140.out)
         have HZ140_0 := hJ (PF.new HZ2hr58j.out HB140.out)
         clear hHeld
         refine hK.out _ _ (HS68.out _ HX140.out) (fun hHeld => ?_)
         clear hK K
         try simp only [PT]
         refine tq 4 ?_
         try simp only [PT]
         refine tq 5 ?_
         try simp only [PT]
         refine tq 6 ?_
         try simp only [PT]
         exact wpAnyH_cast2 (by kernel_rfl) (by kernel_rfl) (J16_2_3 s58 A58 n58 c58 t58 B58 m58 d58 s63 A63 n63 c63 t63 B63 m63 d63 v140 HX140 HZ140_0 HR140hr63)
         refine .cons rfl (fun K hK => ?_) .nil
         go_simp
         have HB141 := hJ ((Below.refl v.heap.size v).alloc (Nat.le_refl _) (.cells #[.bool false, .slice none 0 0, .bool false, .slice none 0 0] 35))
         have HP141 := hJ (BX.lit v 35 #[.bool false, .slice none 0 0, .bool false, .slice none 0 0])
         obtain ⟨v141, hV⟩ := nmz (World.alloc v (.cells #[.bool false, .slice none 0 0, .bool false, .slice none 0 0] 35))
         obtain ⟨g16_7, hg⟩ := nmz (v.heap.size)
         rw [hV] at HB141 HP141 ⊢
         rw [hg] at HP141 ⊢
         have HG141 := hJ (show x67.heap.size ≤ g16_7 by rw [← hg]; exact HXj.out.size)
         clear hV hg
         have HX141 := hJ (bt HXj.out HB141.out)
         have HZ141_0 := hJ (PF.new HZ2hr58j.out HB141.out)
         clear hHeld
         refine hK.out _ _ (HS68.out _ HX141.out) (fun hHeld => ?_)
         clear hK K
         try simp only [PT]
         exact wpAnyH_cast2 (by kernel_rfl) (by kernel_rfl) (J16_2_7 s58 A58 n58 c58 t58 B58 m58 d58 g16_7 v141 HX141 HZ141_0 HP141 HG141)
        have J16_7 : ∀ (g16_7 : Nat) (v : World), Hid (Below x67.heap.size x67 v) → Hid (BX 35 v g16_7 #[.bool false, .slice none 0 0, .bool false, .slice none 0 0]) → Hid (x67.heap.size ≤ g16_7) → F 7 (Array.setIfInBounds L0 7 true) (Act.put a0 (some 27) (.pointer (some ⟨g16_7, 0, none⟩))) v := by
         intro g16_7 v HXj HPg16_7j HGg16_7j
         subst hF ha0 hL0
         simp only [PT] at  ⊢
         have hHeld := HS68.out _ HXj.out
         refine wpAnyH_ready (rs := [2]) (by kernel_rfl) (by simp) ?_
         refine .cons rfl (fun K hK => ?_) .nil
         go_simp
         go_at_call 27
         refine (l4whole_any ((k34 - 40)) v HKW.out).mono ?_
         rintro e v142 ⟨s58, A58, n58, c58, t58, B58, m58, d58, rfl, hr58, hb⟩
         have HB142 := hJ hb
         have HR142hr58 := hJ hr58
         clear hb hr58
         go_wp2_with fail
         have HX142 := hJ (bt HXj.out HB142.out)
         have HP142g16_7 := hJ (BX.new HPg16_7j.out HB142.out)
         clear hHeld
         refine hK.out _ _ (HS68.out _ HX142.out) (fun hHeld => ?_)
         clear hK K
         try simp only [PT]
         exact wpAnyH_cast2 (by kernel_rfl) (by kernel_rfl) (J16_2_7 s58 A58 n58 c58 t58 B58 m58 d58 g16_7 v142 HX142 HR142hr58 HP142g16_7 HGg16_7j)
        subst hF ha0 hL0
        refine wpAnyH_ready (rs := [2, 7]) (by kernel_rfl) (by simp) ?_
        refine .cons rfl (fun K hK => ?_) ?_
        go_simp
        go_at_call 27
        refine (l4whole_any ((k34 - 40)) v68 HKW.out).mono ?_
        rintro e v143 ⟨s58, A58, n58, c58, t58, B58, m58, d58, rfl, hr58, hb⟩
        have HB143 := hJ hb
        have HR143hr58 := hJ hr58
        clear hb hr58
        go_wp2_with fail
        have HX143 := hJ (bt HX68.out HB143.out)
        clear hHeld
        refine hK.out _ _ (HS68.out _ HX143.out) (fun hHeld => ?_)
        clear hK K
        try simp only [PT]
        exact wpAnyH_cast2 (by kernel_rfl) (by kernel_rfl) (J16_2 s58 A58 n58 c58 t58 B58 m58 d58 v143 HX143 HR143hr58)
        refine .cons rfl (fun K hK => ?_) .nil
        go_simp
        have HB144 := hJ ((Below.refl v68.heap.size v68).alloc (Nat.le_refl _) (.cells #[.bool false, .slice none 0 0, .bool false, .slice none 0 0] 35))
        have HP144 := hJ (BX.lit v68 35 #[.bool false, .slice none 0 0, .bool false, .slice none 0 0])
        obtain ⟨v144, hV⟩ := nmz (World.alloc v68 (.cells #[.bool false, .slice none 0 0, .bool false, .slice none 0 0] 35))
        obtain ⟨g16_7, hg⟩ := nmz (v68.heap.size)
        rw [hV] at HB144 HP144 ⊢
        rw [hg] at HP144 ⊢
        have HG144 := hJ (show x67.heap.size ≤ g16_7 by rw [← hg]; exact HX68.out.size)
        clear hV hg
        have HX144 := hJ (bt HX68.out HB144.out)
        clear hHeld
        refine hK.out _ _ (HS68.out _ HX144.out) (fun hHeld => ?_)
        clear hK K
        try simp only [PT]
        exact wpAnyH_cast2 (by kernel_rfl) (by kernel_rfl) (J16_7 g16_7 v144 HX144 HP144 HG144)
       have J14_1_3_4 : ∀ (s50 : Bool) (A50 : Option Addr) (n50 : Nat) (c50 : Nat) (t50 : Bool) (B50 : Option Addr) (m50 : Nat) (d50 : Nat) (s51 : Bool) (A51 : Option Addr) (n51 : Nat) (c51 : Nat) (t51 : Bool) (B51 : Option Addr) (m51 : Nat) (d51 : Nat) (s56 : Bool) (A56 : Option Addr) (n56 : Nat) (c56 : Nat) (t56 : Bool) (B56 : Option Addr) (m56 : Nat) (d56 : Nat) (v : World), Hid (Below x54.heap.size x54 v) → Hid (PF v s50 A50 n50 c50 t50 B50 m50 d50 P45 Q46) → Hid (PF v s51 A51 n51 c51 t51 B51 m51 d51 P45 Q46) → Hid (PF v s56 A56 n56 c56 t56 B56 m56 d56 P52 Q53) → F 3 (Array.setIfInBounds (Array.setIfInBounds (Array.setIfInBounds (Array.setIfInBounds (Array.setIfInBounds (Array.setIfInBounds L0 1 true) 3 true) 4 true) 5 true) 6 true) 7 true) (Act.put (Act.put (Act.put (Act.put (Act.put (Act.put a0 (some 115) (.agg #[.bool s50, .slice A50 n50 c50, .bool t50, .slice B50 m50 d50])) (some 117) (.agg #[.bool s51, .slice A51 n51 c51, .bool t51, .slice B51 m51 d51])) (some 118) (.tuple #[.agg #[.bool s56, .slice A56 n56 c56, .bool t56, .slice B56 m56 d56], .int .i64 C54])) (some 113) (.tuple #[.agg #[.bool s56, .slice A56 n56 c56, .bool t56, .slice B56 m56 d56], .int .i64 C54])) (some 119) (.agg #[.bool s56, .slice A56 n56 c56, .bool t56, .slice B56 m56 d56])) (some 120) (.int .i64 C54)) v := by
        intro s50 A50 n50 c50 t50 B50 m50 d50 s51 A51 n51 c51 t51 B51 m51 d51 s56 A56 n56 c56 t56 B56 m56 d56 v HXj HZ1hr50j HZ3hr51j HZ4hr56j
        subst hF ha0 hL0
        simp only [PT] at  ⊢
        have hHeld := HS55.out _ HXj.out
        refine wpAnyH_ready (rs := [8]) (by kernel_rfl) (by simp) ?_
        refine .cons rfl (fun K hK => ?_) .nil
        go_simp
        have HB145 := hJ ((Below.refl v.heap.size v).alloc (Nat.le_refl _) (.cells #[.bool false, .slice none 0 0, .bool false, .slice none 0 0] 35))
        have HP145 := hJ (BX.lit v 35 #[.bool false, .slice none 0 0, .bool false, .slice none 0 0])
        obtain ⟨v145, hV⟩ := nmz (World.alloc v (.cells #[.bool false, .slice none 0 0, .bool false, .slice none 0 0] 35))
        obtain ⟨g14_8, hg⟩ := nmz (v.heap.size)
        rw [hV] at HB145 HP145 ⊢
        rw [hg] at HP145 ⊢
        have HG145 := hJ (show x54.heap.size ≤ g14_8 by rw [← hg]; exact HXj.out.size)
        clear hV hg
        have HX145 := hJ (bt HXj.out HB145.out)
        have HZ145_0 := hJ (PF.new HZ1hr50j.out HB145.out)
        have HZ145_1 := hJ (PF.new HZ3hr51j.out HB145.out)
        have HZ145_2 := hJ (PF.new HZ4hr56j.out HB145.out)
        clear hHeld
        refine hK.out _ _ (HS55.out _ HX145.out) (fun hHeld => ?_)
        clear hK K
        try simp only [PT]
        exact wpAnyH_cast2 (by kernel_rfl) (by kernel_rfl) (J14_1_3_4_8 s50 A50 n50 c50 t50 B50 m50 d50 s51 A51 n51 c51 t51 B51 m51 d51 s56 A56 n56 c56 t56 B56 m56 d56 g14_8 v145 HX145 HZ145_0 HZ145_1 HZ145_2 HP145 HG145)
       have J14_1_3_8 : ∀ (s50 : Bool) (A50 : Option Addr) (n50 : Nat) (c50 : Nat) (t50 : Bool) (B50 : Option Addr) (m50 : Nat) (d50 : Nat) (s51 : Bool) (A51 : Option Addr) (n51 : Nat) (c51 : Nat) (t51 : Bool) (B51 : Option Addr) (m51 : Nat) (d51 : Nat) (g14_8 : Nat) (v : World), Hid (Below x54.heap.size x54 v) → Hid (PF v s50 A50 n50 c50 t50 B50 m50 d50 P45 Q46) → Hid (PF v s51 A51 n51 c51 t51 B51 m51 d51 P45 Q46) → Hid (BX 35 v g14_8 #[.bool false, .slice none 0 0, .bool false, .slice none 0 0]) → Hid (x54.heap.size ≤ g14_8) → F 6 (Array.setIfInBounds (Array.setIfInBounds (Array.setIfInBounds L0 1 true) 3 true) 8 true) (Act.put (Act.put (Act.put a0 (some 115) (.agg #[.bool s50, .slice A50 n50 c50, .bool t50, .slice B50 m50 d50])) (some 117) (.agg #[.bool s51, .slice A51 n51 c51, .bool t51, .slice B51 m51 d51])) (some 23) (.pointer (some ⟨g14_8, 0, none⟩))) v := by
        intro s50 A50 n50 c50 t50 B50 m50 d50 s51 A51 n51 c51 t51 B51 m51 d51 g14_8 v HXj HZ1hr50j HZ3hr51j HPg14_8j HGg14_8j
        subst hF ha0 hL0
        simp only [PT] at  ⊢
        have hHeld := HS55.out _ HXj.out
        refine wpAnyH_ready (rs := [4]) (by kernel_rfl) (by simp) ?_
        refine .cons rfl (fun K hK => ?_) .nil
        go_simp
        go_at_call 37
        refine (fmul_any P45 Q46 P45 Q46 s50 t50 s51 t51 A50 B50 A51 B51 n50 c50 m50 d50 n51 c51 m51 d51 v HZ1hr50j.out HZ3hr51j.out HF48.out.1.1 HF48.out.1.1 HF48.out.2.1 HF48.out.2.2 HF48.out.2.1 HF48.out.2.2).mono ?_
        rw [HEP52.out, HEQ53.out, HEC54.out]
        rintro e v146 ⟨s56, A56, n56, c56, t56, B56, m56, d56, rfl, hr56, hb⟩
        have HB146 := hJ hb
        have HR146hr56 := hJ hr56
        clear hb hr56
        go_wp2_with fail
        have HX146 := hJ (bt HXj.out HB146.out)
        have HZ146_0 := hJ (PF.new HZ1hr50j.out HB146.out)
        have HZ146_1 := hJ (PF.new HZ3hr51j.out HB146.out)
        have HP146g14_8 := hJ (BX.new HPg14_8j.out HB146.out)
        clear hHeld
        refine hK.out _ _ (HS55.out _ HX146.out) (fun hHeld => ?_)
        clear hK K
        try simp only [PT]
        refine tq 5 ?_
        try simp only [PT]
        refine tq 6 ?_
        try simp only [PT]
        refine tq 7 ?_
        try simp only [PT]
        exact wpAnyH_cast2 (by kernel_rfl) (by kernel_rfl) (J14_1_3_4_8 s50 A50 n50 c50 t50 B50 m50 d50 s51 A51 n51 c51 t51 B51 m51 d51 s56 A56 n56 c56 t56 B56 m56 d56 g14_8 v146 HX146 HZ146_0 HZ146_1 HR146hr56 HP146g14_8 HGg14_8j)
       have J14_1_3 : ∀ (s50 : Bool) (A50 : Option Addr) (n50 : Nat) (c50 : Nat) (t50 : Bool) (B50 : Option Addr) (m50 : Nat) (d50 : Nat) (s51 : Bool) (A51 : Option Addr) (n51 : Nat) (c51 : Nat) (t51 : Bool) (B51 : Option Addr) (m51 : Nat) (d51 : Nat) (v : World), Hid (Below x54.heap.size x54 v) → Hid (PF v s50 A50 n50 c50 t50 B50 m50 d50 P45 Q46) → Hid (PF v s51 A51 n51 c51 t51 B51 m51 d51 P45 Q46) → F 7 (Array.setIfInBounds (Array.setIfInBounds L0 1 true) 3 true) (Act.put (Act.put a0 (some 115) (.agg #[.bool s50, .slice A50 n50 c50, .bool t50, .slice B50 m50 d50])) (some 117) (.agg #[.bool s51, .slice A51 n51 c51, .bool t51, .slice B51 m51 d51])) v := by
        intro s50 A50 n50 c50 t50 B50 m50 d50 s51 A51 n51 c51 t51 B51 m51 d51 v HXj HZ1hr50j HZ3hr51j
        subst hF ha0 hL0
        simp only [PT] at  ⊢
        have hHeld := HS55.out _ HXj.out
        refine wpAnyH_ready (rs := [4, 8]) (by kernel_rfl) (by simp) ?_
        refine .cons rfl (fun K hK => ?_) ?_
        go_simp
        go_at_call 37
        refine (fmul_any P45 Q46 P45 Q46 s50 t50 s51 t51 A50 B50 A51 B51 n50 c50 m50 d50 n51 c51 m51 d51 v HZ1hr50j.out HZ3hr51j.out HF48.out.1.1 HF48.out.1.1 HF48.out.2.1 HF48.out.2.2 HF48.out.2.1 HF48.out.2.2).mono ?_
        rw [HEP52.out, HEQ53.out, HEC54.out]
        rintro e v147 ⟨s56, A56, n56, c56, t56, B56, m56, d56, rfl, hr56, hb⟩
        have HB147 := hJ hb
        have HR147hr56 := hJ hr56
        clear hb hr56
        go_wp2_with fail
        have HX147 := hJ (bt HXj.out HB147.out)
        have HZ147_0 := hJ (PF.new HZ1hr50j.out HB147.out)
        have HZ147_1 := hJ (PF.new HZ3hr51j.out HB147.out)
        clear hHeld
        refine hK.out _ _ (HS55.out _ HX147.out) (fun hHeld => ?_)
        clear hK K
        try simp only [PT]
        refine tq 5 ?_
        try simp only [PT]
        refine tq 6 ?_
        try simp only [PT]
        refine tq 7 ?_
        try simp only [PT]
        exact wpAnyH_cast2 (by kernel_rfl) (by kernel_rfl) (J14_1_3_4 s50 A50 n50 c50 t50 B50 m50 d50 s51 A51 n51 c51 t51 B51 m51 d51 s56 A56 n56 c56 t56 B56 m56 d56 v147 HX147 HZ147_0 HZ147_1 HR147hr56)
        refine .cons rfl (fun K hK => ?_) .nil
        go_simp
        have HB148 := hJ ((Below.refl v.heap.size v).alloc (Nat.le_refl _) (.cells #[.bool false, .slice none 0 0, .bool false, .slice none 0 0] 35))
        have HP148 := hJ (BX.lit v 35 #[.bool false, .slice none 0 0, .bool false, .slice none 0 0])
        obtain ⟨v148, hV⟩ := nmz (World.alloc v (.cells #[.bool false, .slice none 0 0, .bool false, .slice none 0 0] 35))
        obtain ⟨g14_8, hg⟩ := nmz (v.heap.size)
        rw [hV] at HB148 HP148 ⊢
        rw [hg] at HP148 ⊢
        have HG148 := hJ (show x54.heap.size ≤ g14_8 by rw [← hg]; exact HXj.out.size)
        clear hV hg
        have HX148 := hJ (bt HXj.out HB148.out)
        have HZ148_0 := hJ (PF.new HZ1hr50j.out HB148.out)
        have HZ148_1 := hJ (PF.new HZ3hr51j.out HB148.out)
        clear hHeld
        refine hK.out _ _ (HS55.out _ HX148.out) (fun hHeld => ?_)
        clear hK K
        try simp only [PT]
        exact wpAnyH_cast2 (by kernel_rfl) (by kernel_rfl) (J14_1_3_8 s50 A50 n50 c50 t50 B50 m50 d50 s51 A51 n51 c51 t51 B51 m51 d51 g14_8 v148 HX148 HZ148_0 HZ148_1 HP148 HG148)
       have J14_1_8 : ∀ (s50 : Bool) (A50 : Option Addr) (n50 : Nat) (c50 : Nat) (t50 : Bool) (B50 : Option Addr) (m50 : Nat) (d50 : Nat) (g14_8 : Nat) (v : World), Hid (Below x54.heap.size x54 v) → Hid (PF v s50 A50 n50 c50 t50 B50 m50 d50 P45 Q46) → Hid (BX 35 v g14_8 #[.bool false, .slice none 0 0, .bool false, .slice none 0 0]) → Hid (x54.heap.size ≤ g14_8) → F 7 (Array.setIfInBounds (Array.setIfInBounds L0 1 true) 8 true) (Act.put (Act.put a0 (some 115) (.agg #[.bool s50, .slice A50 n50 c50, .bool t50, .slice B50 m50 d50])) (some 23) (.pointer (some ⟨g14_8, 0, none⟩))) v := by
        intro s50 A50 n50 c50 t50 B50 m50 d50 g14_8 v HXj HZ1hr50j HPg14_8j HGg14_8j
        subst hF ha0 hL0
        simp only [PT] at  ⊢
        have hHeld := HS55.out _ HXj.out
        refine wpAnyH_ready (rs := [3]) (by kernel_rfl) (by simp) ?_
        refine .cons rfl (fun K hK => ?_) .nil
        go_simp
        go_at_call 32
        refine (l4of_any P45 Q46 s49 A49 n49 c49 t49 B49 m49 d49 v (RNo.new HR53hr49w20.out HXj.out) (RNo.new HR53hs49w20.out HXj.out) HF48.out).mono ?_
        rintro e v149 ⟨s51, A51, n51, c51, t51, B51, m51, d51, rfl, hr51, hb⟩
        have HB149 := hJ hb
        have HR149hr51 := hJ hr51
        clear hb hr51
        go_wp2_with fail
        have HX149 := hJ (bt HXj.out HB149.out)
        have HZ149_0 := hJ (PF.new HZ1hr50j.out HB149.out)
        have HP149g14_8 := hJ (BX.new HPg14_8j.out HB149.out)
        clear hHeld
        refine hK.out _ _ (HS55.out _ HX149.out) (fun hHeld => ?_)
        clear hK K
        try simp only [PT]
        exact wpAnyH_cast2 (by kernel_rfl) (by kernel_rfl) (J14_1_3_8 s50 A50 n50 c50 t50 B50 m50 d50 s51 A51 n51 c51 t51 B51 m51 d51 g14_8 v149 HX149 HZ149_0 HR149hr51 HP149g14_8 HGg14_8j)
       have J14_1 : ∀ (s50 : Bool) (A50 : Option Addr) (n50 : Nat) (c50 : Nat) (t50 : Bool) (B50 : Option Addr) (m50 : Nat) (d50 : Nat) (v : World), Hid (Below x54.heap.size x54 v) → Hid (PF v s50 A50 n50 c50 t50 B50 m50 d50 P45 Q46) → F 8 (Array.setIfInBounds L0 1 true) (Act.put a0 (some 115) (.agg #[.bool s50, .slice A50 n50 c50, .bool t50, .slice B50 m50 d50])) v := by
        intro s50 A50 n50 c50 t50 B50 m50 d50 v HXj HZ1hr50j
        subst hF ha0 hL0
        simp only [PT] at  ⊢
        have hHeld := HS55.out _ HXj.out
        refine wpAnyH_ready (rs := [3, 8]) (by kernel_rfl) (by simp) ?_
        refine .cons rfl (fun K hK => ?_) ?_
        go_simp
        go_at_call 32
        refine (l4of_any P45 Q46 s49 A49 n49 c49 t49 B49 m49 d49 v (RNo.new HR53hr49w20.out HXj.out) (RNo.new HR53hs49w20.out HXj.out) HF48.out).mono ?_
        rintro e v150 ⟨s51, A51, n51, c51, t51, B51, m51, d51, rfl, hr51, hb⟩
        have HB150 := hJ hb
        have HR150hr51 := hJ hr51
        clear hb hr51
        go_wp2_with fail
        have HX150 := hJ (bt HXj.out HB150.out)
        have HZ150_0 := hJ (PF.new HZ1hr50j.out HB150.out)
        clear hHeld
        refine hK.out _ _ (HS55.out _ HX150.out) (fun hHeld => ?_)
        clear hK K
        try simp only [PT]
        exact wpAnyH_cast2 (by kernel_rfl) (by kernel_rfl) (J14_1_3 s50 A50 n50 c50 t50 B50 m50 d50 s51 A51 n51 c51 t51 B51 m51 d51 v150 HX150 HZ150_0 HR150hr51)
        refine .cons rfl (fun K hK => ?_) .nil
        go_simp
        have HB151 := hJ ((Below.refl v.heap.size v).alloc (Nat.le_refl _) (.cells #[.bool false, .slice none 0 0, .bool false, .slice none 0 0] 35))
        have HP151 := hJ (BX.lit v 35 #[.bool false, .slice none 0 0, .bool false, .slice none 0 0])
        obtain ⟨v151, hV⟩ := nmz (World.alloc v (.cells #[.bool false, .slice none 0 0, .bool false, .slice none 0 0] 35))
        obtain ⟨g14_8, hg⟩ := nmz (v.heap.size)
        rw [hV] at HB151 HP151 ⊢
        rw [hg] at HP151 ⊢
        have HG151 := hJ (show x54.heap.size ≤ g14_8 by rw [← hg]; exact HXj.out.size)
        clear hV hg
        have HX151 := hJ (bt HXj.out HB151.out)
        have HZ151_0 := hJ (PF.new HZ1hr50j.out HB151.out)
        clear hHeld
        refine hK.out _ _ (HS55.out _ HX151.out) (fun hHeld => ?_)
        clear hK K
        try simp only [PT]
        exact wpAnyH_cast2 (by kernel_rfl) (by kernel_rfl) (J14_1_8 s50 A50 n50 c50 t50 B50 m50 d50 g14_8 v151 HX151 HZ151_0 HP151 HG151)
       have J14_8 : ∀ (g14_8 : Nat) (v : World), Hid (Below x54.heap.size x54 v) → Hid (BX 35 v g14_8 #[.bool false, .slice none 0 0, .bool false, .slice none 0 0]) → Hid (x54.heap.size ≤ g14_8) → F 8 (Array.setIfInBounds L0 8 true) (Act.put a0 (some 23) (.pointer (some ⟨g14_8, 0, none⟩))) v := by
        intro g14_8 v HXj HPg14_8j HGg14_8j
        subst hF ha0 hL0
        simp only [PT] at  ⊢
        have hHeld := HS55.out _ HXj.out
        refine wpAnyH_ready (rs := [1]) (by kernel_rfl) (by simp) ?_
        refine .cons rfl (fun K hK => ?_) .nil
        go_simp
        go_at_call 32
        refine (l4of_any P45 Q46 s49 A49 n49 c49 t49 B49 m49 d49 v (RNo.new HR53hr49w20.out HXj.out) (RNo.new HR53hs49w20.out HXj.out) HF48.out).mono ?_
        rintro e v152 ⟨s50, A50, n50, c50, t50, B50, m50, d50, rfl, hr50, hb⟩
        have HB152 := hJ hb
        have HR152hr50 := hJ hr50
        clear hb hr50
        go_wp2_with fail
        have HX152 := hJ (bt HXj.out HB152.out)
        have HP152g14_8 := hJ (BX.new HPg14_8j.out HB152.out)
        clear hHeld
        refine hK.out _ _ (HS55.out _ HX152.out) (fun hHeld => ?_)
        clear hK K
        try simp only [PT]
        exact wpAnyH_cast2 (by kernel_rfl) (by kernel_rfl) (J14_1_8 s50 A50 n50 c50 t50 B50 m50 d50 g14_8 v152 HX152 HR152hr50 HP152g14_8 HGg14_8j)
       subst hF ha0 hL0
       refine wpAnyH_ready (rs := [1, 8]) (by kernel_rfl) (by simp) ?_
       refine .cons rfl (fun K hK => ?_) ?_
       go_simp
       go_at_call 32
       refine (l4of_any P45 Q46 s49 A49 n49 c49 t49 B49 m49 d49 v55 (RNo.new HR53hr49w20.out HX55.out) (RNo.new HR53hs49w20.out HX55.out) HF48.out).mono ?_
       rintro e v153 ⟨s50, A50, n50, c50, t50, B50, m50, d50, rfl, hr50, hb⟩
       have HB153 := hJ hb
       have HR153hr50 := hJ hr50
       clear hb hr50
       go_wp2_with fail
       have HX153 := hJ (bt HX55.out HB153.out)
       clear hHeld
       refine hK.out _ _ (HS55.out _ HX153.out) (fun hHeld => ?_)
       clear hK K
       try simp only [PT]
       exact wpAnyH_cast2 (by kernel_rfl) (by kernel_rfl) (J14_1 s50 A50 n50 c50 t50 B50 m50 d50 v153 HX153 HR153hr50)
       refine .cons rfl (fun K hK => ?_) .nil
       go_simp
       have HB154 := hJ ((Below.refl v55.heap.size v55).alloc (Nat.le_refl _) (.cells #[.bool false, .slice none 0 0, .bool false, .slice none 0 0] 35))
       have HP154 := hJ (BX.lit v55 35 #[.bool false, .slice none 0 0, .bool false, .slice none 0 0])
       obtain ⟨v154, hV⟩ := nmz (World.alloc v55 (.cells #[.bool false, .slice none 0 0, .bool false, .slice none 0 0] 35))
       obtain ⟨g14_8, hg⟩ := nmz (v55.heap.size)
       rw [hV] at HB154 HP154 ⊢
       rw [hg] at HP154 ⊢
       have HG154 := hJ (show x54.heap.size ≤ g14_8 by rw [← hg]; exact HX55.out.size)
       clear hV hg
       have HX154 := hJ (bt HX55.out HB154.out)
       clear hHeld
       refine hK.out _ _ (HS55.out _ HX154.out) (fun hHeld => ?_)
       clear hK K
       try simp only [PT]
       exact wpAnyH_cast2 (by kernel_rfl) (by kernel_rfl) (J14_8 g14_8 v154 HX154 HP154 HG154)
      have J12_2_3 : ∀ (s41 : Bool) (A41 : Option Addr) (n41 : Nat) (c41 : Nat) (t41 : Bool) (B41 : Option Addr) (m41 : Nat) (d41 : Nat) (s42 : Bool) (A42 : Option Addr) (n42 : Nat) (c42 : Nat) (t42 : Bool) (B42 : Option Addr) (m42 : Nat) (d42 : Nat) (v : World), Hid (Below v46.heap.size v46 v) → Hid (RN v s41 A41 n41 c41 ((k34 - 40))) → Hid (RN v t41 B41 m41 d41 1) → Hid (RN v s42 A42 n42 c42 P36) → Hid (RN v t42 B42 m42 d42 Q37) → F 3 (Array.setIfInBounds (Array.setIfInBounds (Array.setIfInBounds (Array.setIfInBounds (Array.setIfInBounds L0 2 true) 3 true) 4 true) 5 true) 6 true) (Act.put (Act.put (Act.put (Act.put (Act.put a0 (some 103) (.agg #[.bool s41, .slice A41 n41 c41, .bool t41, .slice B41 m41 d41])) (some 104) (.tuple #[.agg #[.bool s42, .slice A42 n42 c42, .bool t42, .slice B42 m42 d42], .int .i64 C38])) (some 100) (.tuple #[.agg #[.bool s42, .slice A42 n42 c42, .bool t42, .slice B42 m42 d42], .int .i64 C38])) (some 105) (.agg #[.bool s42, .slice A42 n42 c42, .bool t42, .slice B42 m42 d42])) (some 106) (.int .i64 C38)) v := by
       intro s41 A41 n41 c41 t41 B41 m41 d41 s42 A42 n42 c42 t42 B42 m42 d42 v HXj HZ2hr41j HZ2hs41j HZ3hr42j HZ3hs42j
       subst hF ha0 hL0
       simp only [PT] at  ⊢
       have hHeld := HS48.out _ HXj.out
       refine wpAnyH_ready (rs := [7]) (by kernel_rfl) (by simp) ?_
       refine .cons rfl (fun K hK => ?_) .nil
       go_simp
       have HB155 := hJ ((Below.refl v.heap.size v).alloc (Nat.le_refl _) (.cells #[.bool false, .slice none 0 0, .bool false, .slice none 0 0] 41))
       have HP155 := hJ (BX.lit v 41 #[.bool false, .slice none 0 0, .bool false, .slice none 0 0])
       obtain ⟨v155, hV⟩ := nmz (World.alloc v (.cells #[.bool false, .slice none 0 0, .bool false, .slice none 0 0] 41))
       obtain ⟨g12_7, hg⟩ := nmz (v.heap.size)
       rw [hV] at HB155 HP155 ⊢
       rw [hg] at HP155 ⊢
       have HG155 := hJ (show v46.heap.size ≤ g12_7 by rw [← hg]; exact HXj.out.size)
       clear hV hg
       have HX155 := hJ (bt HXj.out HB155.out)
       have HZ155_0 := hJ (RNo.new HZ2hr41j.out HB155.out)
       have HZ155_1 := hJ (RNo.new HZ2hs41j.out HB155.out)
       have HZ155_2 := hJ (RNo.new HZ3hr42j.out HB155.out)
       have HZ155_3 := hJ (RNo.new HZ3hs42j.out HB155.out)
       clear hHeld
       refine hK.out _ _ (HS48.out _ HX155.out) (fun hHeld => ?_)
       clear hK K
       try simp only [PT]
       exact wpAnyH_cast2 (by kernel_rfl) (by kernel_rfl) (J12_2_3_7 s41 A41 n41 c41 t41 B41 m41 d41 s42 A42 n42 c42 t42 B42 m42 d42 g12_7 v155 HX155 HZ155_0 HZ155_1 HZ155_2 HZ155_3 HP155 HG155)
      have J12_2_7 : ∀ (s41 : Bool) (A41 : Option Addr) (n41 : Nat) (c41 : Nat) (t41 : Bool) (B41 : Option Addr) (m41 : Nat) (d41 : Nat) (g12_7 : Nat) (v : World), Hid (Below v46.heap.size v46 v) → Hid (RN v s41 A41 n41 c41 ((k34 - 40))) → Hid (RN v t41 B41 m41 d41 1) → Hid (BX 41 v g12_7 #[.bool false, .slice none 0 0, .bool false, .slice none 0 0]) → Hid (v46.heap.size ≤ g12_7) → F 6 (Array.setIfInBounds (Array.setIfInBounds L0 2 true) 7 true) (Act.put (Act.put a0 (some 103) (.agg #[.bool s41, .slice A41 n41 c41, .bool t41, .slice B41 m41 d41])) (some 19) (.pointer (some ⟨g12_7, 0, none⟩))) v := by
       intro s41 A41 n41 c41 t41 B41 m41 d41 g12_7 v HXj HZ2hr41j HZ2hs41j HPg12_7j HGg12_7j
       subst hF ha0 hL0
       simp only [PT] at  ⊢
       have hHeld := HS48.out _ HXj.out
       refine wpAnyH_ready (rs := [3]) (by kernel_rfl) (by simp) ?_
       refine .cons rfl (fun K hK => ?_) .nil
       go_simp
       go_at_call 34
       refine (r4add_any P18 Q19 ((k34 - 40)) 1 (32 * limE) s24 A24 n24 c24 t24 B24 m24 d24 s41 A41 n41 c41 t41 B41 m41 d41 v (RNo.new HZ18_1w15.out HXj.out) (RNo.new HZ18_2w15.out HXj.out) HZ2hr41j.out HZ2hs41j.out (by decide) (fr_rk HF21.out) (fr_rk (fr_int (x := (k34 - 40)) HKW.out))).mono ?_
       rw [HEP36.out, HEQ37.out, HEC38.out]
       rintro e v156 ⟨s42, A42, n42, c42, t42, B42, m42, d42, rfl, hr42, hs42, hb⟩
       have HB156 := hJ hb
       have HR156hr42 := hJ hr42
       have HR156hs42 := hJ hs42
       clear hb hr42 hs42
       go_wp2_with fail
       have HX156 := hJ (bt HXj.out HB156.out)
       have HZ156_0 := hJ (RNo.new HZ2hr41j.out HB156.out)
       have HZ156_1 := hJ (RNo.new HZ2hs41j.out HB156.out)
       have HP156g12_7 := hJ (BX.new HPg12_7j.out HB156.out)
       clear hHeld
       refine hK.out _ _ (HS48.out _ HX156.out) (fun hHeld => ?_)
       clear hK K
       try simp only [PT]
       refine tq 4 ?_
       try simp only [PT]
       refine tq 5 ?_
       try simp only [PT]
       refine tq 6 ?_
       try simp only [PT]
       exact wpAnyH_cast2 (by kernel_rfl) (by kernel_rfl) (J12_2_3_7 s41 A41 n41 c41 t41 B41 m41 d41 s42 A42 n42 c42 t42 B42 m42 d42 g12_7 v156 HX156 HZ156_0 HZ156_1 HR156hr42 HR156hs42 HP156g12_7 HGg12_7j)
      have J12_2 : ∀ (s41 : Bool) (A41 : Option Addr) (n41 : Nat) (c41 : Nat) (t41 : Bool) (B41 : Option Addr) (m41 : Nat) (d41 : Nat) (v : World), Hid (Below v46.heap.size v46 v) → Hid (RN v s41 A41 n41 c41 ((k34 - 40))) → Hid (RN v t41 B41 m41 d41 1) → F 7 (Array.setIfInBounds L0 2 true) (Act.put a0 (some 103) (.agg #[.bool s41, .slice A41 n41 c41, .bool t41, .slice B41 m41 d41])) v := by
       intro s41 A41 n41 c41 t41 B41 m41 d41 v HXj HZ2hr41j HZ2hs41j
       subst hF ha0 hL0
       simp only [PT] at  ⊢
       have hHeld := HS48.out _ HXj.out
       refine wpAnyH_ready (rs := [3, 7]) (by kernel_rfl) (by simp) ?_
       refine .cons rfl (fun K hK => ?_) ?_
       go_simp
       go_at_call 34
       refine (r4add_any P18 Q19 ((k34 - 40)) 1 (32 * limE) s24 A24 n24 c24 t24 B24 m24 d24 s41 A41 n41 c41 t41 B41 m41 d41 v (RNo.new HZ18_1w15.out HXj.out) (RNo.new HZ18_2w15.out HXj.out) HZ2hr41j.out HZ2hs41j.out (by decide) (fr_rk HF21.out) (fr_rk (fr_int (x := (k34 - 40)) HKW.out))).mono ?_
       rw [HEP36.out, HEQ37.out, HEC38.out]
       rintro e v157 ⟨s42, A42, n42, c42, t42, B42, m42, d42, rfl, hr42, hs42, hb⟩
       have HB157 := hJ hb
       have HR157hr42 := hJ hr42
       have HR157hs42 := hJ hs42
       clear hb hr42 hs42
       go_wp2_with fail
       have HX157 := hJ (bt HXj.out HB157.out)
       have HZ157_0 := hJ (RNo.new HZ2hr41j.out HB157.out)
       have HZ157_1 := hJ (RNo.new HZ2hs41j.out HB157.out)
       clear hHeld
       refine hK.out _ _ (HS48.out _ HX157.out) (fun hHeld => ?_)
       clear hK K
       try simp only [PT]
       refine tq 4 ?_
       try simp only [PT]
       refine tq 5 ?_
       try simp only [PT]
       refine tq 6 ?_
       try simp only [PT]
       exact wpAnyH_cast2 (by kernel_rfl) (by kernel_rfl) (J12_2_3 s41 A41 n41 c41 t41 B41 m41 d41 s42 A42 n42 c42 t42 B42 m42 d42 v157 HX157 HZ157_0 HZ157_1 HR157hr42 HR157hs42)
       refine .cons rfl (fun K hK => ?_) .nil
       go_simp
       have HB158 := hJ ((Below.refl v.heap.size v).alloc (Nat.le_refl _) (.cells #[.bool false, .slice none 0 0, .bool false, .slice none 0 0] 41))
       have HP158 := hJ (BX.lit v 41 #[.bool false, .slice none 0 0, .bool false, .slice none 0 0])
       obtain ⟨v158, hV⟩ := nmz (World.alloc v (.cells #[.bool false, .slice none 0 0, .bool false, .slice none 0 0] 41))
       obtain ⟨g12_7, hg⟩ := nmz (v.heap.size)
       rw [hV] at HB158 HP158 ⊢
       rw [hg] at HP158 ⊢
       have HG158 := hJ (show v46.heap.size ≤ g12_7 by rw [← hg]; exact HXj.out.size)
       clear hV hg
       have HX158 := hJ (bt HXj.out HB158.out)
       have HZ158_0 := hJ (RNo.new HZ2hr41j.out HB158.out)
       have HZ158_1 := hJ (RNo.new HZ2hs41j.out HB158.out)
       clear hHeld
       refine hK.out _ _ (HS48.out _ HX158.out) (fun hHeld => ?_)
       clear hK K
       try simp only [PT]
       exact wpAnyH_cast2 (by kernel_rfl) (by kernel_rfl) (J12_2_7 s41 A41 n41 c41 t41 B41 m41 d41 g12_7 v158 HX158 HZ158_0 HZ158_1 HP158 HG158)
      have J12_7 : ∀ (g12_7 : Nat) (v : World), Hid (Below v46.heap.size v46 v) → Hid (BX 41 v g12_7 #[.bool false, .slice none 0 0, .bool false, .slice none 0 0]) → Hid (v46.heap.size ≤ g12_7) → F 7 (Array.setIfInBounds L0 7 true) (Act.put a0 (some 19) (.pointer (some ⟨g12_7, 0, none⟩))) v := by
       intro g12_7 v HXj HPg12_7j HGg12_7j
       subst hF ha0 hL0
       simp only [PT] at  ⊢
       have hHeld := HS48.out _ HXj.out
       refine wpAnyH_ready (rs := [2]) (by kernel_rfl) (by simp) ?_
       refine .cons rfl (fun K hK => ?_) .nil
       go_simp
       go_at_call 28
       refine (r4of_any ((k34 - 40)) v HKW.out).mono ?_
       rintro e v159 ⟨s41, A41, n41, c41, t41, B41, m41, d41, rfl, hr41, hs41, hb⟩
       have HB159 := hJ hb
       have HR159hr41 := hJ hr41
       have HR159hs41 := hJ hs41
       clear hb hr41 hs41
       go_wp2_with fail
       have HX159 := hJ (bt HXj.out HB159.out)
       have HP159g12_7 := hJ (BX.new HPg12_7j.out HB159.out)
       clear hHeld
       refine hK.out _ _ (HS48.out _ HX159.out) (fun hHeld => ?_)
       clear hK K
       try simp only [PT]
       exact wpAnyH_cast2 (by kernel_rfl) (by kernel_rfl) (J12_2_7 s41 A41 n41 c41 t41 B41 m41 d41 g12_7 v159 HX159 HR159hr41 HR159hs41 HP159g12_7 HGg12_7j)
      subst hF ha0 hL0
      refine wpAnyH_ready (rs := [2, 7]) (by kernel_rfl) (by simp) ?_
      refine .cons rfl (fun K hK => ?_) ?_
      go_simp
      go_at_call 28
      refine (r4of_any ((k34 - 40)) v48 HKW.out).mono ?_
      rintro e v160 ⟨s41, A41, n41, c41, t41, B41, m41, d41, rfl, hr41, hs41, hb⟩
      have HB160 := hJ hb
      have HR160hr41 := hJ hr41
      have HR160hs41 := hJ hs41
      clear hb hr41 hs41
      go_wp2_with fail
      have HX160 := hJ (bt HX48.out HB160.out)
      clear hHeld
      refine hK.out _ _ (HS48.out _ HX160.out) (fun hHeld => ?_)
      clear hK K
      try simp only [PT]
      exact wpAnyH_cast2 (by kernel_rfl) (by kernel_rfl) (J12_2 s41 A41 n41 c41 t41 B41 m41 d41 v160 HX160 HR160hr41 HR160hs41)
      refine .cons rfl (fun K hK => ?_) .nil
      go_simp
      have HB161 := hJ ((Below.refl v48.heap.size v48).alloc (Nat.le_refl _) (.cells #[.bool false, .slice none 0 0, .bool false, .slice none 0 0] 41))
      have HP161 := hJ (BX.lit v48 41 #[.bool false, .slice none 0 0, .bool false, .slice none 0 0])
      obtain ⟨v161, hV⟩ := nmz (World.alloc v48 (.cells #[.bool false, .slice none 0 0, .bool false, .slice none 0 0] 41))
      obtain ⟨g12_7, hg⟩ := nmz (v48.heap.size)
      rw [hV] at HB161 HP161 ⊢
      rw [hg] at HP161 ⊢
      have HG161 := hJ (show v46.heap.size ≤ g12_7 by rw [← hg]; exact HX48.out.size)
      clear hV hg
      have HX161 := hJ (bt HX48.out HB161.out)
      clear hHeld
      refine hK.out _ _ (HS48.out _ HX161.out) (fun hHeld => ?_)
      clear hK K
      try simp only [PT]
      exact wpAnyH_cast2 (by kernel_rfl) (by kernel_rfl) (J12_7 g12_7 v161 HX161 HP161 HG161)
     have J11_2_3 : ∀ (s35 : Bool) (A35 : Option Addr) (n35 : Nat) (c35 : Nat) (t35 : Bool) (B35 : Option Addr) (m35 : Nat) (d35 : Nat) (s40 : Bool) (A40 : Option Addr) (n40 : Nat) (c40 : Nat) (t40 : Bool) (B40 : Option Addr) (m40 : Nat) (d40 : Nat) (v : World), Hid (Below w43.heap.size w43 v) → Hid (PF v s35 A35 n35 c35 t35 B35 m35 d35 ((k34 - 40)) 1) → Hid (PF v s40 A40 n40 c40 t40 B40 m40 d40 P36 Q37) → F 3 (Array.setIfInBounds (Array.setIfInBounds (Array.setIfInBounds (Array.setIfInBounds (Array.setIfInBounds L0 2 true) 3 true) 4 true) 5 true) 6 true) (Act.put (Act.put (Act.put (Act.put (Act.put a0 (some 96) (.agg #[.bool s35, .slice A35 n35 c35, .bool t35, .slice B35 m35 d35])) (some 97) (.tuple #[.agg #[.bool s40, .slice A40 n40 c40, .bool t40, .slice B40 m40 d40], .int .i64 C38])) (some 93) (.tuple #[.agg #[.bool s40, .slice A40 n40 c40, .bool t40, .slice B40 m40 d40], .int .i64 C38])) (some 98) (.agg #[.bool s40, .slice A40 n40 c40, .bool t40, .slice B40 m40 d40])) (some 99) (.int .i64 C38)) v := by
      intro s35 A35 n35 c35 t35 B35 m35 d35 s40 A40 n40 c40 t40 B40 m40 d40 v HXj HZ2hr35j HZ3hr40j
      subst hF ha0 hL0
      simp only [PT] at  ⊢
      have hHeld := HS45.out _ HXj.out
      refine wpAnyH_ready (rs := [7]) (by kernel_rfl) (by simp) ?_
      refine .cons rfl (fun K hK => ?_) .nil
      go_simp
      have HB162 := hJ ((Below.refl v.heap.size v).alloc (Nat.le_refl _) (.cells #[.bool false, .slice none 0 0, .bool false, .slice none 0 0] 35))
      have HP162 := hJ (BX.lit v 35 #[.bool false, .slice none 0 0, .bool false, .slice none 0 0])
      obtain ⟨v162, hV⟩ := nmz (World.alloc v (.cells #[.bool false, .slice none 0 0, .bool false, .slice none 0 0] 35))
      obtain ⟨g11_7, hg⟩ := nmz (v.heap.size)
      rw [hV] at HB162 HP162 ⊢
      rw [hg] at HP162 ⊢
      have HG162 := hJ (show w43.heap.size ≤ g11_7 by rw [← hg]; exact HXj.out.size)
      clear hV hg
      have HX162 := hJ (bt HXj.out HB162.out)
      have HZ162_0 := hJ (PF.new HZ2hr35j.out HB162.out)
      have HZ162_1 := hJ (PF.new HZ3hr40j.out HB162.out)
      clear hHeld
      refine hK.out _ _ (HS45.out _ HX162.out) (fun hHeld => ?_)
      clear hK K
      try simp only [PT]
      exact wpAnyH_cast2 (by kernel_rfl) (by kernel_rfl) (J11_2_3_7 s35 A35 n35 c35 t35 B35 m35 d35 s40 A40 n40 c40 t40 B40 m40 d40 g11_7 v162 HX162 HZ162_0 HZ162_1 HP162 HG162)
     have J11_2_7 : ∀ (s35 : Bool) (A35 : Option Addr) (n35 : Nat) (c35 : Nat) (t35 : Bool) (B35 : Option Addr) (m35 : Nat) (d35 : Nat) (g11_7 : Nat) (v : World), Hid (Below w43.heap.size w43 v) → Hid (PF v s35 A35 n35 c35 t35 B35 m35 d35 ((k34 - 40)) 1) → Hid (BX 35 v g11_7 #[.bool false, .slice none 0 0, .bool false, .slice none 0 0]) → Hid (w43.heap.size ≤ g11_7) → F 6 (Array.setIfInBounds (Array.setIfInBounds L0 2 true) 7 true) (Act.put (Act.put a0 (some 96) (.agg #[.bool s35, .slice A35 n35 c35, .bool t35, .slice B35 m35 d35])) (some 17) (.pointer (some ⟨g11_7, 0, none⟩))) v := by
      intro s35 A35 n35 c35 t35 B35 m35 d35 g11_7 v HXj HZ2hr35j HPg11_7j HGg11_7j
      subst hF ha0 hL0
      simp only [PT] at  ⊢
      have hHeld := HS45.out _ HXj.out
      refine wpAnyH_ready (rs := [3]) (by kernel_rfl) (by simp) ?_
      refine .cons rfl (fun K hK => ?_) .nil
      go_simp
      go_at_call 33
      refine (fadd_any P18 Q19 ((k34 - 40)) 1 s22 t22 s35 t35 A22 B22 A35 B35 n22 c22 m22 d22 n35 c35 m35 d35 v (PF.new HR15hr22w14.out HXj.out) HZ2hr35j.out HF21.out.1.1 (fr_int (x := (k34 - 40)) HKW.out).1.1 HF21.out.2.1 HF21.out.2.2 (fr_int (x := (k34 - 40)) HKW.out).2.1 (fr_int (x := (k34 - 40)) HKW.out).2.2).mono ?_
      rw [HEP36.out, HEQ37.out, HEC38.out]
      rintro e v163 ⟨s40, A40, n40, c40, t40, B40, m40, d40, rfl, hr40, hb⟩
      have HB163 := hJ hb
      have HR163hr40 := hJ hr40
      clear hb hr40
      go_wp2_with fail
      have HX163 := hJ (bt HXj.out HB163.out)
      have HZ163_0 := hJ (PF.new HZ2hr35j.out HB163.out)
      have HP163g11_7 := hJ (BX.new HPg11_7j.out HB163.out)
      clear hHeld
      refine hK.out _ _ (HS45.out _ HX163.out) (fun hHeld => ?_)
      clear hK K
      try simp only [PT]
      refine tq 4 ?_
      try simp only [PT]
      refine tq 5 ?_
      try simp only [PT]
      refine tq 6 ?_
      try simp only [PT]
      exact wpAnyH_cast2 (by kernel_rfl) (by kernel_rfl) (J11_2_3_7 s35 A35 n35 c35 t35 B35 m35 d35 s40 A40 n40 c40 t40 B40 m40 d40 g11_7 v163 HX163 HZ163_0 HR163hr40 HP163g11_7 HGg11_7j)
     have J11_2 : ∀ (s35 : Bool) (A35 : Option Addr) (n35 : Nat) (c35 : Nat) (t35 : Bool) (B35 : Option Addr) (m35 : Nat) (d35 : Nat) (v : World), Hid (Below w43.heap.size w43 v) → Hid (PF v s35 A35 n35 c35 t35 B35 m35 d35 ((k34 - 40)) 1) → F 7 (Array.setIfInBounds L0 2 true) (Act.put a0 (some 96) (.agg #[.bool s35, .slice A35 n35 c35, .bool t35, .slice B35 m35 d35])) v := by
      intro s35 A35 n35 c35 t35 B35 m35 d35 v HXj HZ2hr35j
      subst hF ha0 hL0
      simp only [PT] at  ⊢
      have hHeld := HS45.out _ HXj.out
      refine wpAnyH_ready (rs := [3, 7]) (by kernel_rfl) (by simp) ?_
      refine .cons rfl (fun K hK => ?_) ?_
      go_simp
      go_at_call 33
      refine (fadd_any P18 Q19 ((k34 - 40)) 1 s22 t22 s35 t35 A22 B22 A35 B35 n22 c22 m22 d22 n35 c35 m35 d35 v (PF.new HR15hr22w14.out HXj.out) HZ2hr35j.out HF21.out.1.1 (fr_int (x := (k34 - 40)) HKW.out).1.1 HF21.out.2.1 HF21.out.2.2 (fr_int (x := (k34 - 40)) HKW.out).2.1 (fr_int (x := (k34 - 40)) HKW.out).2.2).mono ?_
      rw [HEP36.out, HEQ37.out, HEC38.out]
      rintro e v164 ⟨s40, A40, n40, c40, t40, B40, m40, d40, rfl, hr40, hb⟩
      have HB164 := hJ hb
      have HR164hr40 := hJ hr40
      clear hb hr40
      go_wp2_with fail
      have HX164 := hJ (bt HXj.out HB164.out)
      have HZ164_0 := hJ (PF.new HZ2hr35j.out HB164.out)
      clear hHeld
      refine hK.out _ _ (HS45.out _ HX164.out) (fun hHeld => ?_)
      clear hK K
      try simp only [PT]
      refine tq 4 ?_
      try simp only [PT]
      refine tq 5 ?_
      try simp only [PT]
      refine tq 6 ?_
      try simp only [PT]
      exact wpAnyH_cast2 (by kernel_rfl) (by kernel_rfl) (J11_2_3 s35 A35 n35 c35 t35 B35 m35 d35 s40 A40 n40 c40 t40 B40 m40 d40 v164 HX164 HZ164_0 HR164hr40)
      refine .cons rfl (fun K hK => ?_) .nil
      go_simp
      have HB165 := hJ ((Below.refl v.heap.size v).alloc (Nat.le_refl _) (.cells #[.bool false, .slice none 0 0, .bool false, .slice none 0 0] 35))
      have HP165 := hJ (BX.lit v 35 #[.bool false, .slice none 0 0, .bool false, .slice none 0 0])
      obtain ⟨v165, hV⟩ := nmz (World.alloc v (.cells #[.bool false, .slice none 0 0, .bool false, .slice none 0 0] 35))
      obtain ⟨g11_7, hg⟩ := nmz (v.heap.size)
      rw [hV] at HB165 HP165 ⊢
      rw [hg] at HP165 ⊢
      have HG165 := hJ (show w43.heap.size ≤ g11_7 by rw [← hg]; exact HXj.out.size)
      clear hV hg
      have HX165 := hJ (bt HXj.out HB165.out)
      have HZ165_0 := hJ (PF.new HZ2hr35j.out HB165.out)
      clear hHeld
      refine hK.out _ _ (HS45.out _ HX165.out) (fun hHeld => ?_)
      clear hK K
      try simp only [PT]
      exact wpAnyH_cast2 (by kernel_rfl) (by kernel_rfl) (J11_2_7 s35 A35 n35 c35 t35 B35 m35 d35 g11_7 v165 HX165 HZ165_0 HP165 HG165)
     have J11_7 : ∀ (g11_7 : Nat) (v : World), Hid (Below w43.heap.size w43 v) → Hid (BX 35 v g11_7 #[.bool false, .slice none 0 0, .bool false, .slice none 0 0]) → Hid (w43.heap.size ≤ g11_7) → F 7 (Array.setIfInBounds L0 7 true) (Act.put a0 (some 17) (.pointer (some ⟨g11_7, 0, none⟩))) v := by
      intro g11_7 v HXj HPg11_7j HGg11_7j
      subst hF ha0 hL0
      simp only [PT] at  ⊢
      have hHeld := HS45.out _ HXj.out
      refine wpAnyH_ready (rs := [2]) (by kernel_rfl) (by simp) ?_
      refine .cons rfl (fun K hK => ?_) .nil
      go_simp
      go_at_call 27
      refine (l4whole_any ((k34 - 40)) v HKW.out).mono ?_
      rintro e v166 ⟨s35, A35, n35, c35, t35, B35, m35, d35, rfl, hr35, hb⟩
      have HB166 := hJ hb
      have HR166hr35 := hJ hr35
      clear hb hr35
      go_wp2_with fail
      have HX166 := hJ (bt HXj.out HB166.out)
      have HP166g11_7 := hJ (BX.new HPg11_7j.out HB166.out)
      clear hHeld
      refine hK.out _ _ (HS45.out _ HX166.out) (fun hHeld => ?_)
      clear hK K
      try simp only [PT]
      exact wpAnyH_cast2 (by kernel_rfl) (by kernel_rfl) (J11_2_7 s35 A35 n35 c35 t35 B35 m35 d35 g11_7 v166 HX166 HR166hr35 HP166g11_7 HGg11_7j)
     subst hF ha0 hL0
     refine wpAnyH_ready (rs := [2, 7]) (by kernel_rfl) (by simp) ?_
     refine .cons rfl (fun K hK => ?_) ?_
     go_simp
     go_at_call 27
     refine (l4whole_any ((k34 - 40)) v45 HKW.out).mono ?_
     rintro e v167 ⟨s35, A35, n35, c35, t35, B35, m35, d35, rfl, hr35, hb⟩
     have HB167 := hJ hb
     have HR167hr35 := hJ hr35
     clear hb hr35
     go_wp2_with fail
     have HX167 := hJ (bt HX45.out HB167.out)
     clear hHeld
     refine hK.out _ _ (HS45.out _ HX167.out) (fun hHeld => ?_)
     clear hK K
     try simp only [PT]
     exact wpAnyH_cast2 (by kernel_rfl) (by kernel_rfl) (J11_2 s35 A35 n35 c35 t35 B35 m35 d35 v167 HX167 HR167hr35)
     refine .cons rfl (fun K hK => ?_) .nil
     go_simp
     have HB168 := hJ ((Below.refl v45.heap.size v45).alloc (Nat.le_refl _) (.cells #[.bool false, .slice none 0 0, .bool false, .slice none 0 0] 35))
     have HP168 := hJ (BX.lit v45 35 #[.bool false, .slice none 0 0, .bool false, .slice none 0 0])
     obtain ⟨v168, hV⟩ := nmz (World.alloc v45 (.cells #[.bool false, .slice none 0 0, .bool false, .slice none 0 0] 35))
     obtain ⟨g11_7, hg⟩ := nmz (v45.heap.size)
     rw [hV] at HB168 HP168 ⊢
     rw [hg] at HP168 ⊢
     have HG168 := hJ (show w43.heap.size ≤ g11_7 by rw [← hg]; exact HX45.out.size)
     clear hV hg
     have HX168 := hJ (bt HX45.out HB168.out)
     clear hHeld
     refine hK.out _ _ (HS45.out _ HX168.out) (fun hHeld => ?_)
     clear hK K
     try simp only [PT]
     exact wpAnyH_cast2 (by kernel_rfl) (by kernel_rfl) (J11_7 g11_7 v168 HX168 HP168 HG168)
    have J7_0_2 : ∀ (s32 : Bool) (A32 : Option Addr) (n32 : Nat) (c32 : Nat) (s33 : Bool) (A33 : Option Addr) (n33 : Nat) (c33 : Nat) (t33 : Bool) (B33 : Option Addr) (m33 : Nat) (d33 : Nat) (v : World), Hid (Below v21.heap.size v21 v) → Hid (RN v s32 A32 n32 c32 3) → Hid (RN v s33 A33 n33 c33 P27) → Hid (RN v t33 B33 m33 d33 Q28) → F 3 (Array.setIfInBounds (Array.setIfInBounds (Array.setIfInBounds (Array.setIfInBounds (Array.setIfInBounds L0 0 true) 2 true) 3 true) 4 true) 5 true) (Act.put (Act.put (Act.put (Act.put (Act.put a0 (some 65) (.agg #[.bool s32, .slice A32 n32 c32])) (some 67) (.tuple #[.agg #[.bool s33, .slice A33 n33 c33, .bool t33, .slice B33 m33 d33], .int .i64 C29])) (some 64) (.tuple #[.agg #[.bool s33, .slice A33 n33 c33, .bool t33, .slice B33 m33 d33], .int .i64 C29])) (some 68) (.agg #[.bool s33, .slice A33 n33 c33, .bool t33, .slice B33 m33 d33])) (some 69) (.int .i64 C29)) v := by
     intro s32 A32 n32 c32 s33 A33 n33 c33 t33 B33 m33 d33 v HXj HZ0hr32j HZ2hr33j HZ2hs33j
     subst hF ha0 hL0
     simp only [PT] at  ⊢
     have hHeld := HS23.out _ HXj.out
     refine wpAnyH_ready (rs := [6]) (by kernel_rfl) (by simp) ?_
     refine .cons rfl (fun K hK => ?_) .nil
     go_simp
     have HB169 := hJ ((Below.refl v.heap.size v).alloc (Nat.le_refl _) (.cells #[.bool false, .slice none 0 0, .bool false, .slice none 0 0] 41))
     have HP169 := hJ (BX.lit v 41 #[.bool false, .slice none 0 0, .bool false, .slice none 0 0])
     obtain ⟨v169, hV⟩ := nmz (World.alloc v (.cells #[.bool false, .slice none 0 0, .bool false, .slice none 0 0] 41))
     obtain ⟨g7_6, hg⟩ := nmz (v.heap.size)
     rw [hV] at HB169 HP169 ⊢
     rw [hg] at HP169 ⊢
     have HG169 := hJ (show v21.heap.size ≤ g7_6 by rw [← hg]; exact HXj.out.size)
     clear hV hg
     have HX169 := hJ (bt HXj.out HB169.out)
     have HZ169_0 := hJ (RNo.new HZ0hr32j.out HB169.out)
     have HZ169_1 := hJ (RNo.new HZ2hr33j.out HB169.out)
     have HZ169_2 := hJ (RNo.new HZ2hs33j.out HB169.out)
     clear hHeld
     refine hK.out _ _ (HS23.out _ HX169.out) (fun hHeld => ?_)
     clear hK K
     try simp only [PT]
     exact wpAnyH_cast2 (by kernel_rfl) (by kernel_rfl) (J7_0_2_6 s32 A32 n32 c32 s33 A33 n33 c33 t33 B33 m33 d33 g7_6 v169 HX169 HZ169_0 HZ169_1 HZ169_2 HP169 HG169)
    have J7_0_6 : ∀ (s32 : Bool) (A32 : Option Addr) (n32 : Nat) (c32 : Nat) (g7_6 : Nat) (v : World), Hid (Below v21.heap.size v21 v) → Hid (RN v s32 A32 n32 c32 3) → Hid (BX 41 v g7_6 #[.bool false, .slice none 0 0, .bool false, .slice none 0 0]) → Hid (v21.heap.size ≤ g7_6) → F 6 (Array.setIfInBounds (Array.setIfInBounds L0 0 true) 6 true) (Act.put (Act.put a0 (some 65) (.agg #[.bool s32, .slice A32 n32 c32])) (some 14) (.pointer (some ⟨g7_6, 0, none⟩))) v := by
     intro s32 A32 n32 c32 g7_6 v HXj HZ0hr32j HPg7_6j HGg7_6j
     subst hF ha0 hL0
     simp only [PT] at  ⊢
     have hHeld := HS23.out _ HXj.out
     refine wpAnyH_ready (rs := [2]) (by kernel_rfl) (by simp) ?_
     refine .cons rfl (fun K hK => ?_) .nil
     go_simp
     go_at_call 24
     refine (r4make_any 3 xN (32 * limE) s32 A32 n32 c32 sN AN nN cN v HZ0hr32j.out (RNo.new HRNw11.out HXj.out) (by decide) (lim_b2 (i64_lim (x := 3) (by decide))) (lim_b2 HXN.out)).mono ?_
     rw [HEP27.out, HEQ28.out, HEC29.out]
     rintro e v170 ⟨s33, A33, n33, c33, t33, B33, m33, d33, rfl, hr33, hs33, hb⟩
     have HB170 := hJ hb
     have HR170hr33 := hJ hr33
     have HR170hs33 := hJ hs33
     clear hb hr33 hs33
     go_wp2_with fail
     have HX170 := hJ (bt HXj.out HB170.out)
     have HZ170_0 := hJ (RNo.new HZ0hr32j.out HB170.out)
     have HP170g7_6 := hJ (BX.new HPg7_6j.out HB170.out)
     clear hHeld
     refine hK.out _ _ (HS23.out _ HX170.out) (fun hHeld => ?_)
     clear hK K
     try simp only [PT]
     refine tq 3 ?_
     try simp only [PT]
     refine tq 4 ?_
     try simp only [PT]
     refine tq 5 ?_
     try simp only [PT]
     exact wpAnyH_cast2 (by kernel_rfl) (by kernel_rfl) (J7_0_2_6 s32 A32 n32 c32 s33 A33 n33 c33 t33 B33 m33 d33 g7_6 v170 HX170 HZ170_0 HR170hr33 HR170hs33 HP170g7_6 HGg7_6j)
    have J7_0 : ∀ (s32 : Bool) (A32 : Option Addr) (n32 : Nat) (c32 : Nat) (v : World), Hid (Below v21.heap.size v21 v) → Hid (RN v s32 A32 n32 c32 3) → F 7 (Array.setIfInBounds L0 0 true) (Act.put a0 (some 65) (.agg #[.bool s32, .slice A32 n32 c32])) v := by
     intro s32 A32 n32 c32 v HXj HZ0hr32j
     subst hF ha0 hL0
     simp only [PT] at  ⊢
     have hHeld := HS23.out _ HXj.out
     refine wpAnyH_ready (rs := [2, 6]) (by kernel_rfl) (by simp) ?_
     refine .cons rfl (fun K hK => ?_) ?_
     go_simp
     go_at_call 24
     refine (r4make_any 3 xN (32 * limE) s32 A32 n32 c32 sN AN nN cN v HZ0hr32j.out (RNo.new HRNw11.out HXj.out) (by decide) (lim_b2 (i64_lim (x := 3) (by decide))) (lim_b2 HXN.out)).mono ?_
     rw [HEP27.out, HEQ28.out, HEC29.out]
     rintro e v171 ⟨s33, A33, n33, c33, t33, B33, m33, d33, rfl, hr33, hs33, hb⟩
     have HB171 := hJ hb
     have HR171hr33 := hJ hr33
     have HR171hs33 := hJ hs33
     clear hb hr33 hs33
     go_wp2_with fail
     have HX171 := hJ (bt HXj.out HB171.out)
     have HZ171_0 := hJ (RNo.new HZ0hr32j.out HB171.out)
     clear hHeld
     refine hK.out _ _ (HS23.out _ HX171.out) (fun hHeld => ?_)
     clear hK K
     try simp only [PT]
     refine tq 3 ?_
     try simp only [PT]
     refine tq 4 ?_
     try simp only [PT]
     refine tq 5 ?_
     try simp only [PT]
     exact wpAnyH_cast2 (by kernel_rfl) (by kernel_rfl) (J7_0_2 s32 A32 n32 c32 s33 A33 n33 c33 t33 B33 m33 d33 v171 HX171 HZ171_0 HR171hr33 HR171hs33)
     refine .cons rfl (fun K hK => ?_) .nil
     go_simp
     have HB172 := hJ ((Below.refl v.heap.size v).alloc (Nat.le_refl _) (.cells #[.bool false, .slice none 0 0, .bool false, .slice none 0 0] 41))
     have HP172 := hJ (BX.lit v 41 #[.bool false, .slice none 0 0, .bool false, .slice none 0 0])
     obtain ⟨v172, hV⟩ := nmz (World.alloc v (.cells #[.bool false, .slice none 0 0, .bool false, .slice none 0 0] 41))
     obtain ⟨g7_6, hg⟩ := nmz (v.heap.size)
     rw [hV] at HB172 HP172 ⊢
     rw [hg] at HP172 ⊢
     have HG172 := hJ (show v21.heap.size ≤ g7_6 by rw [← hg]; exact HXj.out.size)
     clear hV hg
     have HX172 := hJ (bt HXj.out HB172.out)
     have HZ172_0 := hJ (RNo.new HZ0hr32j.out HB172.out)
     clear hHeld
     refine hK.out _ _ (HS23.out _ HX172.out) (fun hHeld => ?_)
     clear hK K
     try simp only [PT]
     exact wpAnyH_cast2 (by kernel_rfl) (by kernel_rfl) (J7_0_6 s32 A32 n32 c32 g7_6 v172 HX172 HZ172_0 HP172 HG172)
    have J7_6 : ∀ (g7_6 : Nat) (v : World), Hid (Below v21.heap.size v21 v) → Hid (BX 41 v g7_6 #[.bool false, .slice none 0 0, .bool false, .slice none 0 0]) → Hid (v21.heap.size ≤ g7_6) → F 7 (Array.setIfInBounds L0 6 true) (Act.put a0 (some 14) (.pointer (some ⟨g7_6, 0, none⟩))) v := by
     intro g7_6 v HXj HPg7_6j HGg7_6j
     subst hF ha0 hL0
     simp only [PT] at  ⊢
     have hHeld := HS23.out _ HXj.out
     refine wpAnyH_ready (rs := [0]) (by kernel_rfl) (by simp) ?_
     refine .cons rfl (fun K hK => ?_) .nil
     go_simp
     go_at_call 21
     refine (of_any 3 v (by decide)).mono ?_
     rintro e v173 ⟨s32, A32, n32, c32, rfl, hr32, hb⟩
     have HB173 := hJ hb
     have HR173hr32 := hJ hr32
     clear hb hr32
     go_wp2_with fail
     have HX173 := hJ (bt HXj.out HB173.out)
     have HP173g7_6 := hJ (BX.new HPg7_6j.out HB173.out)
     clear hHeld
     refine hK.out _ _ (HS23.out _ HX173.out) (fun hHeld => ?_)
     clear hK K
     try simp only [PT]
     exact wpAnyH_cast2 (by kernel_rfl) (by kernel_rfl) (J7_0_6 s32 A32 n32 c32 g7_6 v173 HX173 HR173hr32 HP173g7_6 HGg7_6j)
    subst hF ha0 hL0
    refine wpAnyH_ready (rs := [0, 6]) (by kernel_rfl) (by simp) ?_
    refine .cons rfl (fun K hK => ?_) ?_
    go_simp
    go_at_call 21
    refine (of_any 3 v23 (by decide)).mono ?_
    rintro e v174 ⟨s32, A32, n32, c32, rfl, hr32, hb⟩
    have HB174 := hJ hb
    have HR174hr32 := hJ hr32
    clear hb hr32
    go_wp2_with fail
    have HX174 := hJ (bt HX23.out HB174.out)
    clear hHeld
    refine hK.out _ _ (HS23.out _ HX174.out) (fun hHeld => ?_)
    clear hK K
    try simp only [PT]
    exact wpAnyH_cast2 (by kernel_rfl) (by kernel_rfl) (J7_0 s32 A32 n32 c32 v174 HX174 HR174hr32)
    refine .cons rfl (fun K hK => ?_) .nil
    go_simp
    have HB175 := hJ ((Below.refl v23.heap.size v23).alloc (Nat.le_refl _) (.cells #[.bool false, .slice none 0 0, .bool false, .slice none 0 0] 41))
    have HP175 := hJ (BX.lit v23 41 #[.bool false, .slice none 0 0, .bool false, .slice none 0 0])
    obtain ⟨v175, hV⟩ := nmz (World.alloc v23 (.cells #[.bool false, .slice none 0 0, .bool false, .slice none 0 0] 41))
    obtain ⟨g7_6, hg⟩ := nmz (v23.heap.size)
    rw [hV] at HB175 HP175 ⊢
    rw [hg] at HP175 ⊢
    have HG175 := hJ (show v21.heap.size ≤ g7_6 by rw [← hg]; exact HX23.out.size)
    clear hV hg
    have HX175 := hJ (bt HX23.out HB175.out)
    clear hHeld
    refine hK.out _ _ (HS23.out _ HX175.out) (fun hHeld => ?_)
    clear hK K
    try simp only [PT]
    exact wpAnyH_cast2 (by kernel_rfl) (by kernel_rfl) (J7_6 g7_6 v175 HX175 HP175 HG175)
   have J6_0_2_3 : ∀ (s25 : Bool) (A25 : Option Addr) (n25 : Nat) (c25 : Nat) (s26 : Bool) (A26 : Option Addr) (n26 : Nat) (c26 : Nat) (s31 : Bool) (A31 : Option Addr) (n31 : Nat) (c31 : Nat) (t31 : Bool) (B31 : Option Addr) (m31 : Nat) (d31 : Nat) (v : World), Hid (Below v18.heap.size v18 v) → Hid (PI v s25 A25 n25 c25 3) → Hid (PI v s26 A26 n26 c26 xN) → Hid (PF v s31 A31 n31 c31 t31 B31 m31 d31 P27 Q28) → F 3 (Array.setIfInBounds (Array.setIfInBounds (Array.setIfInBounds (Array.setIfInBounds (Array.setIfInBounds (Array.setIfInBounds L0 0 true) 2 true) 3 true) 4 true) 5 true) 6 true) (Act.put (Act.put (Act.put (Act.put (Act.put (Act.put a0 (some 58) (.agg #[.bool s25, .slice A25 n25 c25])) (some 60) (.agg #[.bool s26, .slice A26 n26 c26])) (some 61) (.tuple #[.agg #[.bool s31, .slice A31 n31 c31, .bool t31, .slice B31 m31 d31], .int .i64 C29])) (some 57) (.tuple #[.agg #[.bool s31, .slice A31 n31 c31, .bool t31, .slice B31 m31 d31], .int .i64 C29])) (some 62) (.agg #[.bool s31, .slice A31 n31 c31, .bool t31, .slice B31 m31 d31])) (some 63) (.int .i64 C29)) v := by
    intro s25 A25 n25 c25 s26 A26 n26 c26 s31 A31 n31 c31 t31 B31 m31 d31 v HXj HZ0hr25j HZ2hr26j HZ3hr31j
    subst hF ha0 hL0
    simp only [PT] at  ⊢
    have hHeld := HS20.out _ HXj.out
    refine wpAnyH_ready (rs := [7]) (by kernel_rfl) (by simp) ?_
    refine .cons rfl (fun K hK => ?_) .nil
    go_simp
    have HB176 := hJ ((Below.refl v.heap.size v).alloc (Nat.le_refl _) (.cells #[.bool false, .slice none 0 0, .bool false, .slice none 0 0] 35))
    have HP176 := hJ (BX.lit v 35 #[.bool false, .slice none 0 0, .bool false, .slice none 0 0])
    obtain ⟨v176, hV⟩ := nmz (World.alloc v (.cells #[.bool false, .slice none 0 0, .bool false, .slice none 0 0] 35))
    obtain ⟨g6_7, hg⟩ := nmz (v.heap.size)
    rw [hV] at HB176 HP176 ⊢
    rw [hg] at HP176 ⊢
    have HG176 := hJ (show v18.heap.size ≤ g6_7 by rw [← hg]; exact HXj.out.size)
    clear hV hg
    have HX176 := hJ (bt HXj.out HB176.out)
    have HZ176_0 := hJ (PIo.new HZ0hr25j.out HB176.out)
    have HZ176_1 := hJ (PIo.new HZ2hr26j.out HB176.out)
    have HZ176_2 := hJ (PF.new HZ3hr31j.out HB176.out)
    clear hHeld
    refine hK.out _ _ (HS20.out _ HX176.out) (fun hHeld => ?_)
    clear hK K
    try simp only [PT]
    exact wpAnyH_cast2 (by kernel_rfl) (by kernel_rfl) (J6_0_2_3_7 s25 A25 n25 c25 s26 A26 n26 c26 s31 A31 n31 c31 t31 B31 m31 d31 g6_7 v176 HX176 HZ176_0 HZ176_1 HZ176_2 HP176 HG176)
   have J6_0_2_7 : ∀ (s25 : Bool) (A25 : Option Addr) (n25 : Nat) (c25 : Nat) (s26 : Bool) (A26 : Option Addr) (n26 : Nat) (c26 : Nat) (g6_7 : Nat) (v : World), Hid (Below v18.heap.size v18 v) → Hid (PI v s25 A25 n25 c25 3) → Hid (PI v s26 A26 n26 c26 xN) → Hid (BX 35 v g6_7 #[.bool false, .slice none 0 0, .bool false, .slice none 0 0]) → Hid (v18.heap.size ≤ g6_7) → F 6 (Array.setIfInBounds (Array.setIfInBounds (Array.setIfInBounds L0 0 true) 2 true) 7 true) (Act.put (Act.put (Act.put a0 (some 58) (.agg #[.bool s25, .slice A25 n25 c25])) (some 60) (.agg #[.bool s26, .slice A26 n26 c26])) (some 12) (.pointer (some ⟨g6_7, 0, none⟩))) v := by
    intro s25 A25 n25 c25 s26 A26 n26 c26 g6_7 v HXj HZ0hr25j HZ2hr26j HPg6_7j HGg6_7j
    subst hF ha0 hL0
    simp only [PT] at  ⊢
    have hHeld := HS20.out _ HXj.out
    refine wpAnyH_ready (rs := [3]) (by kernel_rfl) (by simp) ?_
    refine .cons rfl (fun K hK => ?_) .nil
    go_simp
    go_at_call 22
    refine (fmake_any 3 xN s25 s26 A25 A26 n25 c25 n26 c26 v HZ0hr25j.out HZ2hr26j.out (i64_lim (x := 3) (by decide)) HXN.out).mono ?_
    rw [HEP27.out, HEQ28.out, HEC29.out]
    rintro e v177 ⟨s31, A31, n31, c31, t31, B31, m31, d31, rfl, hr31, hb⟩
    have HB177 := hJ hb
    have HR177hr31 := hJ hr31
    clear hb hr31
    go_wp2_with fail
    have HX177 := hJ (bt HXj.out HB177.out)
    have HZ177_0 := hJ (PIo.new HZ0hr25j.out HB177.out)
    have HZ177_1 := hJ (PIo.new HZ2hr26j.out HB177.out)
    have HP177g6_7 := hJ (BX.new HPg6_7j.out HB177.out)
    clear hHeld
    refine hK.out _ _ (HS20.out _ HX177.out) (fun hHeld => ?_)
    clear hK K
    try simp only [PT]
    refine tq 4 ?_
    try simp only [PT]
    refine tq 5 ?_
    try simp only [PT]
    refine tq 6 ?_
    try simp only [PT]
    exact wpAnyH_cast2 (by kernel_rfl) (by kernel_rfl) (J6_0_2_3_7 s25 A25 n25 c25 s26 A26 n26 c26 s31 A31 n31 c31 t31 B31 m31 d31 g6_7 v177 HX177 HZ177_0 HZ177_1 HR177hr31 HP177g6_7 HGg6_7j)
   have J6_0_2 : ∀ (s25 : Bool) (A25 : Option Addr) (n25 : Nat) (c25 : Nat) (s26 : Bool) (A26 : Option Addr) (n26 : Nat) (c26 : Nat) (v : World), Hid (Below v18.heap.size v18 v) → Hid (PI v s25 A25 n25 c25 3) → Hid (PI v s26 A26 n26 c26 xN) → F 7 (Array.setIfInBounds (Array.setIfInBounds L0 0 true) 2 true) (Act.put (Act.put a0 (some 58) (.agg #[.bool s25, .slice A25 n25 c25])) (some 60) (.agg #[.bool s26, .slice A26 n26 c26])) v := by
    intro s25 A25 n25 c25 s26 A26 n26 c26 v HXj HZ0hr25j HZ2hr26j
    subst hF ha0 hL0
    simp only [PT] at  ⊢
    have hHeld := HS20.out _ HXj.out
    refine wpAnyH_ready (rs := [3, 7]) (by kernel_rfl) (by simp) ?_
    refine .cons rfl (fun K hK => ?_) ?_
    go_simp
    go_at_call 22
    refine (fmake_any 3 xN s25 s26 A25 A26 n25 c25 n26 c26 v HZ0hr25j.out HZ2hr26j.out (i64_lim (x := 3) (by decide)) HXN.out).mono ?_
    rw [HEP27.out, HEQ28.out, HEC29.out]
    rintro e v178 ⟨s31, A31, n31, c31, t31, B31, m31, d31, rfl, hr31, hb⟩
    have HB178 := hJ hb
    have HR178hr31 := hJ hr31
    clear hb hr31
    go_wp2_with fail
    have HX178 := hJ (bt HXj.out HB178.out)
    have HZ178_0 := hJ (PIo.new HZ0hr25j.out HB178.out)
    have HZ178_1 := hJ (PIo.new HZ2hr26j.out HB178.out)
    clear hHeld
    refine hK.out _ _ (HS20.out _ HX178.out) (fun hHeld => ?_)
    clear hK K
    try simp only [PT]
    refine tq 4 ?_
    try simp only [PT]
    refine tq 5 ?_
    try simp only [PT]
    refine tq 6 ?_
    try simp only [PT]
    exact wpAnyH_cast2 (by kernel_rfl) (by kernel_rfl) (J6_0_2_3 s25 A25 n25 c25 s26 A26 n26 c26 s31 A31 n31 c31 t31 B31 m31 d31 v178 HX178 HZ178_0 HZ178_1 HR178hr31)
    refine .cons rfl (fun K hK => ?_) .nil
    go_simp
    have HB179 := hJ ((Below.refl v.heap.size v).alloc (Nat.le_refl _) (.cells #[.bool false, .slice none 0 0, .bool false, .slice none 0 0] 35))
    have HP179 := hJ (BX.lit v 35 #[.bool false, .slice none 0 0, .bool false, .slice none 0 0])
    obtain ⟨v179, hV⟩ := nmz (World.alloc v (.cells #[.bool false, .slice none 0 0, .bool false, .slice none 0 0] 35))
    obtain ⟨g6_7, hg⟩ := nmz (v.heap.size)
    rw [hV] at HB179 HP179 ⊢
    rw [hg] at HP179 ⊢
    have HG179 := hJ (show v18.heap.size ≤ g6_7 by rw [← hg]; exact HXj.out.size)
    clear hV hg
    have HX179 := hJ (bt HXj.out HB179.out)
    have HZ179_0 := hJ (PIo.new HZ0hr25j.out HB179.out)
    have HZ179_1 := hJ (PIo.new HZ2hr26j.out HB179.out)
    clear hHeld
    refine hK.out _ _ (HS20.out _ HX179.out) (fun hHeld => ?_)
    clear hK K
    try simp only [PT]
    exact wpAnyH_cast2 (by kernel_rfl) (by kernel_rfl) (J6_0_2_7 s25 A25 n25 c25 s26 A26 n26 c26 g6_7 v179 HX179 HZ179_0 HZ179_1 HP179 HG179)
   have J6_0_7 : ∀ (s25 : Bool) (A25 : Option Addr) (n25 : Nat) (c25 : Nat) (g6_7 : Nat) (v : World), Hid (Below v18.heap.size v18 v) → Hid (PI v s25 A25 n25 c25 3) → Hid (BX 35 v g6_7 #[.bool false, .slice none 0 0, .bool false, .slice none 0 0]) → Hid (v18.heap.size ≤ g6_7) → F 7 (Array.setIfInBounds (Array.setIfInBounds L0 0 true) 7 true) (Act.put (Act.put a0 (some 58) (.agg #[.bool s25, .slice A25 n25 c25])) (some 12) (.pointer (some ⟨g6_7, 0, none⟩))) v := by
    intro s25 A25 n25 c25 g6_7 v HXj HZ0hr25j HPg6_7j HGg6_7j
    subst hF ha0 hL0
    simp only [PT] at  ⊢
    have hHeld := HS20.out _ HXj.out
    refine wpAnyH_ready (rs := [2]) (by kernel_rfl) (by simp) ?_
    refine .cons rfl (fun K hK => ?_) .nil
    go_simp
    go_at_call 23
    refine (l4num_any xN sN AN nN cN v (RNo.new HRNw10.out HXj.out) (Nat.le_trans (rlim (RNo.new HRNw10.out HXj.out) HXN.out) (by decide)) HXN.out).mono ?_
    rintro e v180 ⟨s26, A26, n26, c26, rfl, hr26, hb⟩
    have HB180 := hJ hb
    have HR180hr26 := hJ hr26
    clear hb hr26
    go_wp2_with fail
    have HX180 := hJ (bt HXj.out HB180.out)
    have HZ180_0 := hJ (PIo.new HZ0hr25j.out HB180.out)
    have HP180g6_7 := hJ (BX.new HPg6_7j.out HB180.out)
    clear hHeld
    refine hK.out _ _ (HS20.out _ HX180.out) (fun hHeld => ?_)
    clear hK K
    try simp only [PT]
    exact wpAnyH_cast2 (by kernel_rfl) (by kernel_rfl) (J6_0_2_7 s25 A25 n25 c25 s26 A26 n26 c26 g6_7 v180 HX180 HZ180_0 HR180hr26 HP180g6_7 HGg6_7j)
   have J6_0 : ∀ (s25 : Bool) (A25 : Option Addr) (n25 : Nat) (c25 : Nat) (v : World), Hid (Below v18.heap.size v18 v) → Hid (PI v s25 A25 n25 c25 3) → F 8 (Array.setIfInBounds L0 0 true) (Act.put a0 (some 58) (.agg #[.bool s25, .slice A25 n25 c25])) v := by
    intro s25 A25 n25 c25 v HXj HZ0hr25j
    subst hF ha0 hL0
    simp only [PT] at  ⊢
    have hHeld := HS20.out _ HXj.out
    refine wpAnyH_ready (rs := [2, 7]) (by kernel_rfl) (by simp) ?_
    refine .cons rfl (fun K hK => ?_) ?_
    go_simp
    go_at_call 23
    refine (l4num_any xN sN AN nN cN v (RNo.new HRNw10.out HXj.out) (Nat.le_trans (rlim (RNo.new HRNw10.out HXj.out) HXN.out) (by decide)) HXN.out).mono ?_
    rintro e v181 ⟨s26, A26, n26, c26, rfl, hr26, hb⟩
    have HB181 := hJ hb
    have HR181hr26 := hJ hr26
    clear hb hr26
    go_wp2_with fail
    have HX181 := hJ (bt HXj.out HB181.out)
    have HZ181_0 := hJ (PIo.new HZ0hr25j.out HB181.out)
    clear hHeld
    refine hK.out _ _ (HS20.out _ HX181.out) (fun hHeld => ?_)
    clear hK K
    try simp only [PT]
    exact wpAnyH_cast2 (by kernel_rfl) (by kernel_rfl) (J6_0_2 s25 A25 n25 c25 s26 A26 n26 c26 v181 HX181 HZ181_0 HR181hr26)
    refine .cons rfl (fun K hK => ?_) .nil
    go_simp
    have HB182 := hJ ((Below.refl v.heap.size v).alloc (Nat.le_refl _) (.cells #[.bool false, .slice none 0 0, .bool false, .slice none 0 0] 35))
    have HP182 := hJ (BX.lit v 35 #[.bool false, .slice none 0 0, .bool false, .slice none 0 0])
    obtain ⟨v182, hV⟩ := nmz (World.alloc v (.cells #[.bool false, .slice none 0 0, .bool false, .slice none 0 0] 35))
    obtain ⟨g6_7, hg⟩ := nmz (v.heap.size)
    rw [hV] at HB182 HP182 ⊢
    rw [hg] at HP182 ⊢
    have HG182 := hJ (show v18.heap.size ≤ g6_7 by rw [← hg]; exact HXj.out.size)
    clear hV hg
    have HX182 := hJ (bt HXj.out HB182.out)
    have HZ182_0 := hJ (PIo.new HZ0hr25j.out HB182.out)
    clear hHeld
    refine hK.out _ _ (HS20.out _ HX182.out) (fun hHeld => ?_)
    clear hK K
    try simp only [PT]
    exact wpAnyH_cast2 (by kernel_rfl) (by kernel_rfl) (J6_0_7 s25 A25 n25 c25 g6_7 v182 HX182 HZ182_0 HP182 HG182)
   have J6_7 : ∀ (g6_7 : Nat) (v : World), Hid (Below v18.heap.size v18 v) → Hid (BX 35 v g6_7 #[.bool false, .slice none 0 0, .bool false, .slice none 0 0]) → Hid (v18.heap.size ≤ g6_7) → F 8 (Array.setIfInBounds L0 7 true) (Act.put a0 (some 12) (.pointer (some ⟨g6_7, 0, none⟩))) v := by
    intro g6_7 v HXj HPg6_7j HGg6_7j
    subst hF ha0 hL0
    simp only [PT] at  ⊢
    have hHeld := HS20.out _ HXj.out
    refine wpAnyH_ready (rs := [0]) (by kernel_rfl) (by simp) ?_
    refine .cons rfl (fun K hK => ?_) .nil
    go_simp
    go_at_call 43
    refine (from_any 3 v (by decide)).mono ?_
    rintro e v183 ⟨s25, A25, n25, c25, rfl, hr25, hb⟩
    have HB183 := hJ hb
    have HR183hr25 := hJ hr25
    clear hb hr25
    go_wp2_with fail
    have HX183 := hJ (bt HXj.out HB183.out)
    have HP183g6_7 := hJ (BX.new HPg6_7j.out HB183.out)
    clear hHeld
    refine hK.out _ _ (HS20.out _ HX183.out) (fun hHeld => ?_)
    clear hK K
    try simp only [PT]
    exact wpAnyH_cast2 (by kernel_rfl) (by kernel_rfl) (J6_0_7 s25 A25 n25 c25 g6_7 v183 HX183 HR183hr25 HP183g6_7 HGg6_7j)
   subst hF ha0 hL0
   refine wpAnyH_ready (rs := [0, 7]) (by kernel_rfl) (by simp) ?_
   refine .cons rfl (fun K hK => ?_) ?_
   go_simp
   go_at_call 43
   refine (from_any 3 v20 (by decide)).mono ?_
   rintro e v184 ⟨s25, A25, n25, c25, rfl, hr25, hb⟩
   have HB184 := hJ hb
   have HR184hr25 := hJ hr25
   clear hb hr25
   go_wp2_with fail
   have HX184 := hJ (bt HX20.out HB184.out)
   clear hHeld
   refine hK.out _ _ (HS20.out _ HX184.out) (fun hHeld => ?_)
   clear hK K
   try simp only [PT]
   exact wpAnyH_cast2 (by kernel_rfl) (by kernel_rfl) (J6_0 s25 A25 n25 c25 v184 HX184 HR184hr25)
   refine .cons rfl (fun K hK => ?_) .nil
   go_simp
   have HB185 := hJ ((Below.refl v20.heap.size v20).alloc (Nat.le_refl _) (.cells #[.bool false, .slice none 0 0, .bool false, .slice none 0 0] 35))
   have HP185 := hJ (BX.lit v20 35 #[.bool false, .slice none 0 0, .bool false, .slice none 0 0])
   obtain ⟨v185, hV⟩ := nmz (World.alloc v20 (.cells #[.bool false, .slice none 0 0, .bool false, .slice none 0 0] 35))
   obtain ⟨g6_7, hg⟩ := nmz (v20.heap.size)
   rw [hV] at HB185 HP185 ⊢
   rw [hg] at HP185 ⊢
   have HG185 := hJ (show v18.heap.size ≤ g6_7 by rw [← hg]; exact HX20.out.size)
   clear hV hg
   have HX185 := hJ (bt HX20.out HB185.out)
   clear hHeld
   refine hK.out _ _ (HS20.out _ HX185.out) (fun hHeld => ?_)
   clear hK K
   try simp only [PT]
   exact wpAnyH_cast2 (by kernel_rfl) (by kernel_rfl) (J6_7 g6_7 v185 HX185 HP185 HG185)
  have J5_1_2 : ∀ (s23 : Bool) (A23 : Option Addr) (n23 : Nat) (c23 : Nat) (s24 : Bool) (A24 : Option Addr) (n24 : Nat) (c24 : Nat) (t24 : Bool) (B24 : Option Addr) (m24 : Nat) (d24 : Nat) (v : World), Hid (Below x16.heap.size x16 v) → Hid (RN v s23 A23 n23 c23 1) → Hid (RN v s24 A24 n24 c24 P18) → Hid (RN v t24 B24 m24 d24 Q19) → F 3 (Array.setIfInBounds (Array.setIfInBounds (Array.setIfInBounds (Array.setIfInBounds (Array.setIfInBounds L0 1 true) 2 true) 3 true) 4 true) 5 true) (Act.put (Act.put (Act.put (Act.put (Act.put a0 (some 53) (.agg #[.bool s23, .slice A23 n23 c23])) (some 54) (.tuple #[.agg #[.bool s24, .slice A24 n24 c24, .bool t24, .slice B24 m24 d24], .int .i64 C20])) (some 51) (.tuple #[.agg #[.bool s24, .slice A24 n24 c24, .bool t24, .slice B24 m24 d24], .int .i64 C20])) (some 55) (.agg #[.bool s24, .slice A24 n24 c24, .bool t24, .slice B24 m24 d24])) (some 56) (.int .i64 C20)) v := by
   intro s23 A23 n23 c23 s24 A24 n24 c24 t24 B24 m24 d24 v HXj HZ1hr23j HZ2hr24j HZ2hs24j
   subst hF ha0 hL0
   simp only [PT] at  ⊢
   have hHeld := HS17.out _ HXj.out
   refine wpAnyH_ready (rs := [6]) (by kernel_rfl) (by simp) ?_
   refine .cons rfl (fun K hK => ?_) .nil
   go_simp
   have HB186 := hJ ((Below.refl v.heap.size v).alloc (Nat.le_refl _) (.cells #[.bool false, .slice none 0 0, .bool false, .slice none 0 0] 41))
   have HP186 := hJ (BX.lit v 41 #[.bool false, .slice none 0 0, .bool false, .slice none 0 0])
   obtain ⟨v186, hV⟩ := nmz (World.alloc v (.cells #[.bool false, .slice none 0 0, .bool false, .slice none 0 0] 41))
   obtain ⟨g5_6, hg⟩ := nmz (v.heap.size)
   rw [hV] at HB186 HP186 ⊢
   rw [hg] at HP186 ⊢
   have HG186 := hJ (show x16.heap.size ≤ g5_6 by rw [← hg]; exact HXj.out.size)
   clear hV hg
   have HX186 := hJ (bt HXj.out HB186.out)
   have HZ186_0 := hJ (RNo.new HZ1hr23j.out HB186.out)
   have HZ186_1 := hJ (RNo.new HZ2hr24j.out HB186.out)
   have HZ186_2 := hJ (RNo.new HZ2hs24j.out HB186.out)
   clear hHeld
   refine hK.out _ _ (HS17.out _ HX186.out) (fun hHeld => ?_)
   clear hK K
   try simp only [PT]
   exact wpAnyH_cast2 (by kernel_rfl) (by kernel_rfl) (J5_1_2_6 s23 A23 n23 c23 s24 A24 n24 c24 t24 B24 m24 d24 g5_6 v186 HX186 HZ186_0 HZ186_1 HZ186_2 HP186 HG186)
  have J5_1_6 : ∀ (s23 : Bool) (A23 : Option Addr) (n23 : Nat) (c23 : Nat) (g5_6 : Nat) (v : World), Hid (Below x16.heap.size x16 v) → Hid (RN v s23 A23 n23 c23 1) → Hid (BX 41 v g5_6 #[.bool false, .slice none 0 0, .bool false, .slice none 0 0]) → Hid (x16.heap.size ≤ g5_6) → F 6 (Array.setIfInBounds (Array.setIfInBounds L0 1 true) 6 true) (Act.put (Act.put a0 (some 53) (.agg #[.bool s23, .slice A23 n23 c23])) (some 10) (.pointer (some ⟨g5_6, 0, none⟩))) v := by
   intro s23 A23 n23 c23 g5_6 v HXj HZ1hr23j HPg5_6j HGg5_6j
   subst hF ha0 hL0
   simp only [PT] at  ⊢
   have hHeld := HS17.out _ HXj.out
   refine wpAnyH_ready (rs := [2]) (by kernel_rfl) (by simp) ?_
   refine .cons rfl (fun K hK => ?_) .nil
   go_simp
   go_at_call 24
   refine (r4make_any xN 1 (32 * limE) sN AN nN cN s23 A23 n23 c23 v (RNo.new HRNw9.out HXj.out) HZ1hr23j.out (by decide) (lim_b2 HXN.out) (lim_b2 (i64_lim (x := 1) (by decide)))).mono ?_
   rw [HEP18.out, HEQ19.out, HEC20.out]
   rintro e v187 ⟨s24, A24, n24, c24, t24, B24, m24, d24, rfl, hr24, hs24, hb⟩
   have HB187 := hJ hb
   have HR187hr24 := hJ hr24
   have HR187hs24 := hJ hs24
   clear hb hr24 hs24
   go_wp2_with fail
   have HX187 := hJ (bt HXj.out HB187.out)
   have HZ187_0 := hJ (RNo.new HZ1hr23j.out HB187.out)
   have HP187g5_6 := hJ (BX.new HPg5_6j.out HB187.out)
   clear hHeld
   refine hK.out _ _ (HS17.out _ HX187.out) (fun hHeld => ?_)
   clear hK K
   try simp only [PT]
   refine tq 3 ?_
   try simp only [PT]
   refine tq 4 ?_
   try simp only [PT]
   refine tq 5 ?_
   try simp only [PT]
   exact wpAnyH_cast2 (by kernel_rfl) (by kernel_rfl) (J5_1_2_6 s23 A23 n23 c23 s24 A24 n24 c24 t24 B24 m24 d24 g5_6 v187 HX187 HZ187_0 HR187hr24 HR187hs24 HP187g5_6 HGg5_6j)
  have J5_1 : ∀ (s23 : Bool) (A23 : Option Addr) (n23 : Nat) (c23 : Nat) (v : World), Hid (Below x16.heap.size x16 v) → Hid (RN v s23 A23 n23 c23 1) → F 7 (Array.setIfInBounds L0 1 true) (Act.put a0 (some 53) (.agg #[.bool s23, .slice A23 n23 c23])) v := by
   intro s23 A23 n23 c23 v HXj HZ1hr23j
   subst hF ha0 hL0
   simp only [PT] at  ⊢
   have hHeld := HS17.out _ HXj.out
   refine wpAnyH_ready (rs := [2, 6]) (by kernel_rfl) (by simp) ?_
   refine .cons rfl (fun K hK => ?_) ?_
   go_simp
   go_at_call 24
   refine (r4make_any xN 1 (32 * limE) sN AN nN cN s23 A23 n23 c23 v (RNo.new HRNw9.out HXj.out) HZ1hr23j.out (by decide) (lim_b2 HXN.out) (lim_b2 (i64_lim (x := 1) (by decide)))).mono ?_
   rw [HEP18.out, HEQ19.out, HEC20.out]
   rintro e v188 ⟨s24, A24, n24, c24, t24, B24, m24, d24, rfl, hr24, hs24, hb⟩
   have HB188 := hJ hb
   have HR188hr24 := hJ hr24
   have HR188hs24 := hJ hs24
   clear hb hr24 hs24
   go_wp2_with fail
   have HX188 := hJ (bt HXj.out HB188.out)
   have HZ188_0 := hJ (RNo.new HZ1hr23j.out HB188.out)
   clear hHeld
   refine hK.out _ _ (HS17.out _ HX188.out) (fun hHeld => ?_)
   clear hK K
   try simp only [PT]
   refine tq 3 ?_
   try simp only [PT]
   refine tq 4 ?_
   try simp only [PT]
   refine tq 5 ?_
   try simp only [PT]
   exact wpAnyH_cast2 (by kernel_rfl) (by kernel_rfl) (J5_1_2 s23 A23 n23 c23 s24 A24 n24 c24 t24 B24 m24 d24 v188 HX188 HZ188_0 HR188hr24 HR188hs24)
   refine .cons rfl (fun K hK => ?_) .nil
   go_simp
   have HB189 := hJ ((Below.refl v.heap.size v).alloc (Nat.le_refl _) (.cells #[.bool false, .slice none 0 0, .bool false, .slice none 0 0] 41))
   have HP189 := hJ (BX.lit v 41 #[.bool false, .slice none 0 0, .bool false, .slice none 0 0])
   obtain ⟨v189, hV⟩ := nmz (World.alloc v (.cells #[.bool false, .slice none 0 0, .bool false, .slice none 0 0] 41))
   obtain ⟨g5_6, hg⟩ := nmz (v.heap.size)
   rw [hV] at HB189 HP189 ⊢
   rw [hg] at HP189 ⊢
   have HG189 := hJ (show x16.heap.size ≤ g5_6 by rw [← hg]; exact HXj.out.size)
   clear hV hg
   have HX189 := hJ (bt HXj.out HB189.out)
   have HZ189_0 := hJ (RNo.new HZ1hr23j.out HB189.out)
   clear hHeld
   refine hK.out _ _ (HS17.out _ HX189.out) (fun hHeld => ?_)
   clear hK K
   try simp only [PT]
   exact wpAnyH_cast2 (by kernel_rfl) (by kernel_rfl) (J5_1_6 s23 A23 n23 c23 g5_6 v189 HX189 HZ189_0 HP189 HG189)
  have J5_6 : ∀ (g5_6 : Nat) (v : World), Hid (Below x16.heap.size x16 v) → Hid (BX 41 v g5_6 #[.bool false, .slice none 0 0, .bool false, .slice none 0 0]) → Hid (x16.heap.size ≤ g5_6) → F 7 (Array.setIfInBounds L0 6 true) (Act.put a0 (some 10) (.pointer (some ⟨g5_6, 0, none⟩))) v := by
   intro g5_6 v HXj HPg5_6j HGg5_6j
   subst hF ha0 hL0
   simp only [PT] at  ⊢
   have hHeld := HS17.out _ HXj.out
   refine wpAnyH_ready (rs := [1]) (by kernel_rfl) (by simp) ?_
   refine .cons rfl (fun K hK => ?_) .nil
   go_simp
   go_at_call 21
   refine (of_any 1 v (by decide)).mono ?_
   rintro e v190 ⟨s23, A23, n23, c23, rfl, hr23, hb⟩
   have HB190 := hJ hb
   have HR190hr23 := hJ hr23
   clear hb hr23
   go_wp2_with fail
   have HX190 := hJ (bt HXj.out HB190.out)
   have HP190g5_6 := hJ (BX.new HPg5_6j.out HB190.out)
   clear hHeld
   refine hK.out _ _ (HS17.out _ HX190.out) (fun hHeld => ?_)
   clear hK K
   try simp only [PT]
   exact wpAnyH_cast2 (by kernel_rfl) (by kernel_rfl) (J5_1_6 s23 A23 n23 c23 g5_6 v190 HX190 HR190hr23 HP190g5_6 HGg5_6j)
  subst hF ha0 hL0
  refine wpAnyH_ready (rs := [1, 6]) (by kernel_rfl) (by simp) ?_
  refine .cons rfl (fun K hK => ?_) ?_
  go_simp
  go_at_call 21
  refine (of_any 1 v17 (by decide)).mono ?_
  rintro e v191 ⟨s23, A23, n23, c23, rfl, hr23, hb⟩
  have HB191 := hJ hb
  have HR191hr23 := hJ hr23
  clear hb hr23
  go_wp2_with fail
  have HX191 := hJ (bt HX17.out HB191.out)
  clear hHeld
  refine hK.out _ _ (HS17.out _ HX191.out) (fun hHeld => ?_)
  clear hK K
  try simp only [PT]
  exact wpAnyH_cast2 (by kernel_rfl) (by kernel_rfl) (J5_1 s23 A23 n23 c23 v191 HX191 HR191hr23)
  refine .cons rfl (fun K hK => ?_) .nil
  go_simp
  have HB192 := hJ ((Below.refl v17.heap.size v17).alloc (Nat.le_refl _) (.cells #[.bool false, .slice none 0 0, .bool false, .slice none 0 0] 41))
  have HP192 := hJ (BX.lit v17 41 #[.bool false, .slice none 0 0, .bool false, .slice none 0 0])
  obtain ⟨v192, hV⟩ := nmz (World.alloc v17 (.cells #[.bool false, .slice none 0 0, .bool false, .slice none 0 0] 41))
  obtain ⟨g5_6, hg⟩ := nmz (v17.heap.size)
  rw [hV] at HB192 HP192 ⊢
  rw [hg] at HP192 ⊢
  have HG192 := hJ (show x16.heap.size ≤ g5_6 by rw [← hg]; exact HX17.out.size)
  clear hV hg
  have HX192 := hJ (bt HX17.out HB192.out)
  clear hHeld
  refine hK.out _ _ (HS17.out _ HX192.out) (fun hHeld => ?_)
  clear hK K
  try simp only [PT]
  exact wpAnyH_cast2 (by kernel_rfl) (by kernel_rfl) (J5_6 g5_6 v192 HX192 HP192 HG192)
end Go.Proofs.YtbhnaffbgggabaaGreat
