/- Contracts taken out of a text for its size. Conditions: as each statement has them. -/
import Derived.Test.YtbhnaffbgggabaaGreatAC
import Derived.Test.YtbhnaffbgggabaaGreatAD
namespace Go.Proofs.YtbhnaffbgggabaaGreat
open Go.RowKit
attribute [local go_sem ↓] Go.wp_at_zero Go.wp_at_succ
set_option maxRecDepth 100000 in
set_option maxHeartbeats 1600000 in
theorem r4sub_any (p q r s : Int) (k : Nat) (s0 : Bool) (A0 : Option Addr) (n0 c0 : Nat) (t0 : Bool) (B0 : Option Addr) (m0 d0 : Nat) (s1 : Bool) (A1 : Option Addr) (n1 c1 : Nat) (t1 : Bool) (B1 : Option Addr) (m1 d1 : Nat) (w : World) (hp : RN w s0 A0 n0 c0 p) (hq : RN w t0 B0 m0 d0 q) (hr : RN w s1 A1 n1 c1 r) (hs : RN w t1 B1 m1 d1 s) (hk : k ≤ 20000) (ha : Rk k p q) (hb : Rk k r s) :
  Calls Tryz.prog 36 #[.agg #[.bool s0, .slice A0 n0 c0, .bool t0, .slice B0 m0 d0], .agg #[.bool s1, .slice A1 n1 c1, .bool t1, .slice B1 m1 d1]] w (RetRE (adP p q (-r) s) (adQ p q (-r) s) (adC p q (-r) s) w) := by
 have HP0 := hJ hp
 have HP1 := hJ hq
 have HP2 := hJ hr
 have HP3 := hJ hs
 have HK := hJ hk
 have HA := hJ ha
 have HB := hJ hb
 clear hp hq hr hs hk ha hb
 obtain ⟨x1, hx1⟩ := nmz (((w.alloc (.cells #[.bool s0, .slice A0 n0 c0, .bool t0, .slice B0 m0 d0] 41)).alloc (.cells #[.bool s1, .slice A1 n1 c1, .bool t1, .slice B1 m1 d1] 41)).alloc (.cells #[.bool false, .slice none 0 0, .bool false, .slice none 0 0] 41))
 have HB1 := hJ (show Below w.heap.size w x1 by rw [← hx1]; exact ((((Below.refl _ _).alloc (Nat.le_refl _) _).alloc (by simp only [World.size_alloc]; omega) _).alloc (by simp only [World.size_alloc]; omega) _))
 have HQ1x0 := hJ (show BX 41 x1 w.heap.size #[.bool s0, .slice A0 n0 c0, .bool t0, .slice B0 m0 d0] by rw [← hx1]; exact (((BX.at rfl).alloc _).alloc _))
 have HG1x0 := hJ (show w.heap.size ≤ w.heap.size by omega)
 have HL1x0 := hJ (show w.heap.size < x1.heap.size from HQ1x0.out.lt)
 have HQ1x1 := hJ (show BX 41 x1 (w.heap.size + 1) #[.bool s1, .slice A1 n1 c1, .bool t1, .slice B1 m1 d1] by rw [← hx1]; exact ((BX.at (by simp only [World.size_alloc])).alloc _))
 have HG1x1 := hJ (show w.heap.size ≤ w.heap.size + 1 by omega)
 have HL1x1 := hJ (show w.heap.size + 1 < x1.heap.size from HQ1x1.out.lt)
 have HQ1x2 := hJ (show BX 41 x1 (w.heap.size + 2) #[.bool false, .slice none 0 0, .bool false, .slice none 0 0] by rw [← hx1]; exact (BX.at (by simp only [World.size_alloc])))
 have HG1x2 := hJ (show w.heap.size ≤ w.heap.size + 2 by omega)
 have HL1x2 := hJ (show w.heap.size + 2 < x1.heap.size from HQ1x2.out.lt)
 have HS2 : Hid (∀ w', Below x1.heap.size x1 w' → (fun w' : World => w'.cell? ⟨w.heap.size, 0, none⟩ = some (.bool s0) ∧ w'.cell? ⟨w.heap.size, 1, none⟩ = some (.slice A0 n0 c0) ∧ w'.cell? ⟨w.heap.size, 2, none⟩ = some (.bool t0) ∧ w'.cell? ⟨w.heap.size, 3, none⟩ = some (.slice B0 m0 d0) ∧ w'.cell? ⟨w.heap.size + 1, 0, none⟩ = some (.bool s1) ∧ w'.cell? ⟨w.heap.size + 1, 1, none⟩ = some (.slice A1 n1 c1) ∧ w'.cell? ⟨w.heap.size + 1, 2, none⟩ = some (.bool t1) ∧ w'.cell? ⟨w.heap.size + 1, 3, none⟩ = some (.slice B1 m1 d1) ∧ Below w.heap.size w w') w') := hJ (fun w' hb => ⟨(BX.new HQ1x0.out hb).cell 0 rfl, (BX.new HQ1x0.out hb).cell 1 rfl, (BX.new HQ1x0.out hb).cell 2 rfl, (BX.new HQ1x0.out hb).cell 3 rfl, (BX.new HQ1x1.out hb).cell 0 rfl, (BX.new HQ1x1.out hb).cell 1 rfl, (BX.new HQ1x1.out hb).cell 2 rfl, (BX.new HQ1x1.out hb).cell 3 rfl, (bt HB1.out hb)⟩)
 have HP2w1 := hJ (RNo.new HP2.out HB1.out)
 have HP3w1 := hJ (RNo.new HP3.out HB1.out)
 have HP0w1 := hJ (RNo.new HP0.out HB1.out)
 have HP1w1 := hJ (RNo.new HP1.out HB1.out)
 go_enter Tryz.func36, Tryz.ntmps36
 go_wp2_with fail
 clear hx1
 obtain ⟨v2, hv2⟩ := nmz (World.drew x1)
 have HX2 := hJ (show Below x1.heap.size x1 v2 by rw [← hv2]; exact (Below.refl _ _).drew)
 refine wp_region_held_drew (S := (fun w' : World => w'.cell? ⟨w.heap.size, 0, none⟩ = some (.bool s0) ∧ w'.cell? ⟨w.heap.size, 1, none⟩ = some (.slice A0 n0 c0) ∧ w'.cell? ⟨w.heap.size, 2, none⟩ = some (.bool t0) ∧ w'.cell? ⟨w.heap.size, 3, none⟩ = some (.slice B0 m0 d0) ∧ w'.cell? ⟨w.heap.size + 1, 0, none⟩ = some (.bool s1) ∧ w'.cell? ⟨w.heap.size + 1, 1, none⟩ = some (.slice A1 n1 c1) ∧ w'.cell? ⟨w.heap.size + 1, 2, none⟩ = some (.bool t1) ∧ w'.cell? ⟨w.heap.size + 1, 3, none⟩ = some (.slice B1 m1 d1) ∧ Below w.heap.size w w')) (by kernel_rfl) ?_ (fun hHeld => ?_)
 ·rw [hv2]
  exact HS2.out _ HX2.out
 rw [hv2] at hHeld ⊢
 clear hv2
 refine tq 0 ?_
 try simp only [PT]
 refine tq 1 ?_
 try simp only [PT]
 refine wpAnyH_ready (rs := [2]) (by kernel_rfl) (by simp) ?_
 refine .cons rfl (fun K hK => ?_) .nil
 go_simp
 go_at_call 31
 refine (r4neg_any r s s1 A1 n1 c1 t1 B1 m1 d1 v2 (RNo.new HP2w1.out HX2.out) (RNo.new HP3w1.out HX2.out) (Nat.le_trans (B2.rlen (RNo.new HP2w1.out HX2.out) HB.out.2.1) (by have := HK.out; omega))).mono ?_
 rintro e v3 ⟨s11, A11, n11, c11, t11, B11, m11, d11, rfl, hr11, hs11, hb⟩
 have HB3 := hJ hb
 have HR3hr11 := hJ hr11
 have HR3hs11 := hJ hs11
 clear hb hr11 hs11
 go_wp2_with fail
 have HX3 := hJ (bt HX2.out HB3.out)
 clear hHeld
 refine hK.out _ _ (HS2.out _ HX3.out) (fun hHeld => ?_)
 clear hK K
 try simp only [PT]
 refine wpAnyH_ready (rs := [3]) (by kernel_rfl) (by simp) ?_
 refine .cons rfl (fun K hK => ?_) .nil
 go_simp
 go_at_call 34
 refine (r4add_any p q (-r) s k s0 A0 n0 c0 t0 B0 m0 d0 s11 A11 n11 c11 t11 B11 m11 d11 v3 (RNo.new HP0w1.out HX3.out) (RNo.new HP1w1.out HX3.out) HR3hr11.out HR3hs11.out HK.out HA.out (rk_neg HB.out)).mono ?_
 rintro e v4 ⟨s12, A12, n12, c12, t12, B12, m12, d12, rfl, hr12, hs12, hb⟩
 have HB4 := hJ hb
 have HR4hr12 := hJ hr12
 have HR4hs12 := hJ hs12
 clear hb hr12 hs12
 go_wp2_with fail
 have HX4 := hJ (bt HX3.out HB4.out)
 have HZ4_0 := hJ (RNo.new HR3hr11.out HB4.out)
 have HZ4_1 := hJ (RNo.new HR3hs11.out HB4.out)
 clear hHeld
 refine hK.out _ _ (HS2.out _ HX4.out) (fun hHeld => ?_)
 clear hK K
 try simp only [PT]
 refine tq 4 ?_
 try simp only [PT]
 refine tq 5 ?_
 try simp only [PT]
 refine wpAnyH_ready (rs := [6]) (by kernel_rfl) (by simp) ?_
 refine .cons rfl (fun K hK => ?_) .nil
 have HP5 := hJ (BX.new HQ1x2.out HX4.out)
 have z5_0 := HP5.out.cell 0 rfl
 have y5_0 := HP5.out.frozen 0
 have z5_1 := HP5.out.cell 1 rfl
 have y5_1 := HP5.out.frozen 1
 have z5_2 := HP5.out.cell 2 rfl
 have y5_2 := HP5.out.frozen 2
 have z5_3 := HP5.out.cell 3 rfl
 have y5_3 := HP5.out.frozen 3
 have z5 := HP5.out.lt
 go_simp
 obtain ⟨v5, hV⟩ := nmz (World.setCell (World.setCell (World.setCell (World.setCell v4 ⟨w.heap.size + 2, 0, none⟩ (.bool s12)) ⟨w.heap.size + 2, 1, none⟩ (.slice A12 n12 c12)) ⟨w.heap.size + 2, 2, none⟩ (.bool t12)) ⟨w.heap.size + 2, 3, none⟩ (.slice B12 m12 d12))
 rw [hV]
 have HE5 := hJ (show sto v4 (w.heap.size + 2) 0 [.bool s12, .slice A12 n12 c12, .bool t12, .slice B12 m12 d12] = v5 from hV)
 clear hV z5 z5_0 y5_0 z5_1 y5_1 z5_2 y5_2 z5_3 y5_3
 have HX5 := hJ (show Below w.heap.size w v5 by rw [← HE5.out]; exact below_sto (bt HB1.out HX4.out) HG1x2.out _ _)
 have HW5_0 := hJ (show BX 41 v5 w.heap.size #[.bool s0, .slice A0 n0 c0, .bool t0, .slice B0 m0 d0] by rw [← HE5.out]; exact BX.far (BX.new HQ1x0.out HX4.out) (show w.heap.size ≠ w.heap.size + 2 by omega) _ _)
 have HW5_1 := hJ (show BX 41 v5 (w.heap.size + 1) #[.bool s1, .slice A1 n1 c1, .bool t1, .slice B1 m1 d1] by rw [← HE5.out]; exact BX.far (BX.new HQ1x1.out HX4.out) (show w.heap.size + 1 ≠ w.heap.size + 2 by omega) _ _)
 clear hHeld
 refine hK.out _ _ (⟨HW5_0.out.cell 0 rfl, HW5_0.out.cell 1 rfl, HW5_0.out.cell 2 rfl, HW5_0.out.cell 3 rfl, HW5_1.out.cell 0 rfl, HW5_1.out.cell 1 rfl, HW5_1.out.cell 2 rfl, HW5_1.out.cell 3 rfl, HX5.out⟩) (fun hHeld => ?_)
 clear hK K
 try simp only [PT]
 refine tq 7 ?_
 try simp only [PT]
 refine wpAnyH_done (by kernel_rfl) ?_ _
 clear hHeld
 have HQ5s := hJ (show BX 41 v5 (w.heap.size + 2) #[.bool s12, .slice A12 n12 c12, .bool t12, .slice B12 m12 d12] by rw [← HE5.out]; exact BX.put HP5.out _ _)
 have HC0_3 := hJ (show Below w.heap.size w v5 by rw [← HE5.out]; exact below_sto (bt HB1.out HX4.out) HG1x2.out _ _)
 have HR4hr12w3 := hJ (show RN v5 s12 A12 n12 c12 (adP p q (-r) s) by rw [← HE5.out]; exact RNo.sto HR4hr12.out HP5.out rfl _ _)
 have HR4hs12w3 := hJ (show RN v5 t12 B12 m12 d12 (adQ p q (-r) s) by rw [← HE5.out]; exact RNo.sto HR4hs12.out HP5.out rfl _ _)
 go_wp2
 exact bodyPost_ret (results_cell1 rfl _ _ _ _ _ _ _ rfl HQ5s.out Tryz.underlying41 rfl (by kernel_rfl)) rfl ⟨s12, A12, n12, c12, t12, B12, m12, d12, rfl, HR4hr12w3.out, HR4hs12w3.out, HC0_3.out⟩
end Go.Proofs.YtbhnaffbgggabaaGreat
