/- Contracts taken out of a text for its size. Conditions: as each statement has them. -/
import Derived.Test.YtbhnaffbgggabaaGreatAB
namespace Go.Proofs.YtbhnaffbgggabaaGreat
open Go.RowKit
attribute [local go_sem ↓] Go.wp_at_zero Go.wp_at_succ
set_option maxRecDepth 100000 in
set_option maxHeartbeats 1600000 in
theorem r4compare_any (p q r s : Int) (k : Nat) (s0 : Bool) (A0 : Option Addr) (n0 c0 : Nat) (t0 : Bool) (B0 : Option Addr) (m0 d0 : Nat) (s1 : Bool) (A1 : Option Addr) (n1 c1 : Nat) (t1 : Bool) (B1 : Option Addr) (m1 d1 : Nat) (w : World) (hp : RN w s0 A0 n0 c0 p) (hq : RN w t0 B0 m0 d0 q) (hr : RN w s1 A1 n1 c1 r) (hs : RN w t1 B1 m1 d1 s) (hk : k ≤ 20000) (ha : Rk k p q) (hb : Rk k r s) :
  Calls Tryz.prog 47 #[.agg #[.bool s0, .slice A0 n0 c0, .bool t0, .slice B0 m0 d0], .agg #[.bool s1, .slice A1 n1 c1, .bool t1, .slice B1 m1 d1]] w fun e w' => e = .returned (.int .i64 (cmpI (p * s) (r * q))) ∧ Below w.heap.size w w' := by
 have HP0 := hJ hp
 have HP1 := hJ hq
 have HP2 := hJ hr
 have HP3 := hJ hs
 have HK := hJ hk
 have HA := hJ ha
 have HB := hJ hb
 clear hp hq hr hs hk ha hb
 have HBN := hJ (show (p * s).natAbs < B2 (k + k) from B2.mul HA.out.2.1 HB.out.2.2)
 have HBM := hJ (show (r * q).natAbs < B2 (k + k) from B2.mul HB.out.2.1 HA.out.2.2)
 obtain ⟨x1, hx1⟩ := nmz ((w.alloc (.cells #[.bool s0, .slice A0 n0 c0, .bool t0, .slice B0 m0 d0] 41)).alloc (.cells #[.bool s1, .slice A1 n1 c1, .bool t1, .slice B1 m1 d1] 41))
 have HB1 := hJ (show Below w.heap.size w x1 by rw [← hx1]; exact (((Below.refl _ _).alloc (Nat.le_refl _) _).alloc (by simp only [World.size_alloc]; omega) _))
 have HQ1x0 := hJ (show BX 41 x1 w.heap.size #[.bool s0, .slice A0 n0 c0, .bool t0, .slice B0 m0 d0] by rw [← hx1]; exact ((BX.at rfl).alloc _))
 have HG1x0 := hJ (show w.heap.size ≤ w.heap.size by omega)
 have HL1x0 := hJ (show w.heap.size < x1.heap.size from HQ1x0.out.lt)
 have HQ1x1 := hJ (show BX 41 x1 (w.heap.size + 1) #[.bool s1, .slice A1 n1 c1, .bool t1, .slice B1 m1 d1] by rw [← hx1]; exact (BX.at (by simp only [World.size_alloc])))
 have HG1x1 := hJ (show w.heap.size ≤ w.heap.size + 1 by omega)
 have HL1x1 := hJ (show w.heap.size + 1 < x1.heap.size from HQ1x1.out.lt)
 have HS2 : Hid (∀ w', Below x1.heap.size x1 w' → (fun w' : World => w'.cell? ⟨w.heap.size, 0, none⟩ = some (.bool s0) ∧ w'.cell? ⟨w.heap.size, 1, none⟩ = some (.slice A0 n0 c0) ∧ w'.cell? ⟨w.heap.size + 1, 2, none⟩ = some (.bool t1) ∧ w'.cell? ⟨w.heap.size + 1, 3, none⟩ = some (.slice B1 m1 d1) ∧ w'.cell? ⟨w.heap.size + 1, 0, none⟩ = some (.bool s1) ∧ w'.cell? ⟨w.heap.size + 1, 1, none⟩ = some (.slice A1 n1 c1) ∧ w'.cell? ⟨w.heap.size, 2, none⟩ = some (.bool t0) ∧ w'.cell? ⟨w.heap.size, 3, none⟩ = some (.slice B0 m0 d0) ∧ Below x1.heap.size x1 w') w') := hJ (fun w' hb => ⟨(BX.new HQ1x0.out hb).cell 0 rfl, (BX.new HQ1x0.out hb).cell 1 rfl, (BX.new HQ1x1.out hb).cell 2 rfl, (BX.new HQ1x1.out hb).cell 3 rfl, (BX.new HQ1x1.out hb).cell 0 rfl, (BX.new HQ1x1.out hb).cell 1 rfl, (BX.new HQ1x0.out hb).cell 2 rfl, (BX.new HQ1x0.out hb).cell 3 rfl, hb⟩)
 have HP0w1 := hJ (RNo.new HP0.out HB1.out)
 have HP3w1 := hJ (RNo.new HP3.out HB1.out)
 have HP2w1 := hJ (RNo.new HP2.out HB1.out)
 have HP1w1 := hJ (RNo.new HP1.out HB1.out)
 go_enter Tryz.func47, Tryz.ntmps47
 go_wp2_with fail
 clear hx1
 obtain ⟨v2, hv2⟩ := nmz (World.drew x1)
 have HX2 := hJ (show Below x1.heap.size x1 v2 by rw [← hv2]; exact (Below.refl _ _).drew)
 refine wp_region_held_drew (S := (fun w' : World => w'.cell? ⟨w.heap.size, 0, none⟩ = some (.bool s0) ∧ w'.cell? ⟨w.heap.size, 1, none⟩ = some (.slice A0 n0 c0) ∧ w'.cell? ⟨w.heap.size + 1, 2, none⟩ = some (.bool t1) ∧ w'.cell? ⟨w.heap.size + 1, 3, none⟩ = some (.slice B1 m1 d1) ∧ w'.cell? ⟨w.heap.size + 1, 0, none⟩ = some (.bool s1) ∧ w'.cell? ⟨w.heap.size + 1, 1, none⟩ = some (.slice A1 n1 c1) ∧ w'.cell? ⟨w.heap.size, 2, none⟩ = some (.bool t0) ∧ w'.cell? ⟨w.heap.size, 3, none⟩ = some (.slice B0 m0 d0) ∧ Below x1.heap.size x1 w')) (by kernel_rfl) ?_ (fun hHeld => ?_)
 ·rw [hv2]
  exact HS2.out _ HX2.out
 rw [hv2] at hHeld ⊢
 clear hv2
 refine tq 0 ?_
 try simp only [PT]
 refine tq 1 ?_
 try simp only [PT]
 refine tq 2 ?_
 try simp only [PT]
 refine tq 3 ?_
 try simp only [PT]
 refine tq 5 ?_
 try simp only [PT]
 refine tq 6 ?_
 try simp only [PT]
 refine tq 7 ?_
 try simp only [PT]
 refine tq 8 ?_
 try simp only [PT]
 refine wpAnyH_ready (rs := [4]) (by kernel_rfl) (by simp) ?_
 refine .cons rfl (fun K hK => ?_) .nil
 go_simp
 go_at_call 18
 refine (mul_any p s s0 t1 A0 B1 n0 c0 m1 d1 v2 (RNo.new HP0w1.out HX2.out) (RNo.new HP3w1.out HX2.out) (Nat.le_trans (B2.rlen (RNo.new HP0w1.out HX2.out) HA.out.2.1) (by have := HK.out; omega)) (Nat.le_trans (B2.rlen (RNo.new HP3w1.out HX2.out) HB.out.2.2) (by have := HK.out; omega))).mono ?_
 rintro e v3 ⟨s11, A11, n11, c11, rfl, hr11, hb⟩
 have HB3 := hJ hb
 have HR3hr11 := hJ hr11
 clear hb hr11
 go_wp2_with fail
 have HX3 := hJ (bt HX2.out HB3.out)
 clear hHeld
 refine hK.out _ _ (HS2.out _ HX3.out) (fun hHeld => ?_)
 clear hK K
 try simp only [PT]
 refine wpAnyH_ready (rs := [9]) (by kernel_rfl) (by simp) ?_
 refine .cons rfl (fun K hK => ?_) .nil
 go_simp
 go_at_call 18
 refine (mul_any r q s1 t0 A1 B0 n1 c1 m0 d0 v3 (RNo.new HP2w1.out HX3.out) (RNo.new HP1w1.out HX3.out) (Nat.le_trans (B2.rlen (RNo.new HP2w1.out HX3.out) HB.out.2.1) (by have := HK.out; omega)) (Nat.le_trans (B2.rlen (RNo.new HP1w1.out HX3.out) HA.out.2.2) (by have := HK.out; omega))).mono ?_
 rintro e v4 ⟨s12, A12, n12, c12, rfl, hr12, hb⟩
 have HB4 := hJ hb
 have HR4hr12 := hJ hr12
 clear hb hr12
 go_wp2_with fail
 have HX4 := hJ (bt HX3.out HB4.out)
 have HZ4_0 := hJ (RNo.new HR3hr11.out HB4.out)
 clear hHeld
 refine hK.out _ _ (HS2.out _ HX4.out) (fun hHeld => ?_)
 clear hK K
 try simp only [PT]
 refine wpAnyH_ready (rs := [10]) (by kernel_rfl) (by simp) ?_
 refine .cons rfl (fun K hK => ?_) .nil
 go_simp
 go_at_call 117
 refine (rcompare_any (p * s) (r * q) s11 s12 A11 A12 n11 c11 n12 c12 v4 HZ4_0.out HR4hr12.out (Nat.le_trans (B2.rlen HZ4_0.out HBN.out) (by have := HK.out; omega)) (Nat.le_trans (B2.rlen HR4hr12.out HBM.out) (by have := HK.out; omega))).mono ?_
 rintro e v5 ⟨rfl, hb⟩
 have HB5 := hJ hb
 clear hb
 go_wp2_with fail
 have HX5 := hJ (bt HX4.out HB5.out)
 have HZ5_0 := hJ (RNo.new HZ4_0.out HB5.out)
 have HZ5_1 := hJ (RNo.new HR4hr12.out HB5.out)
 clear hHeld
 refine hK.out _ _ (HS2.out _ HX5.out) (fun hHeld => ?_)
 clear hK K
 try simp only [PT]
 refine tq 11 ?_
 try simp only [PT]
 refine wpAnyH_done (by kernel_rfl) ?_ _
 clear hHeld
 have HC0_2 := hJ (bt HB1.out HX5.out)
 go_wp2
 go_ret
 exact ⟨rfl, HC0_2.out⟩
end Go.Proofs.YtbhnaffbgggabaaGreat
