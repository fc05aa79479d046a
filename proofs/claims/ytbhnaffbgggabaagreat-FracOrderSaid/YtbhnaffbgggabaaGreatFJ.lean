/- Contracts of the program's fractions: String. Conditions: as each statement has them. -/
import Derived.Test.YtbhnaffbgggabaaGreatFY
namespace Go.Proofs.YtbhnaffbgggabaaGreat
open Go.RowKit
attribute [local go_sem ↓] Go.wp_at_zero Go.wp_at_succ
/-- The text of a fraction. -/
def fracT (p q : Int) : List UInt8 := if q = 1 then decI p else decI p ++ 47 :: decI q
theorem text_sum (a b : List UInt8) : ByteArray.mk (a ++ 47 :: b).toArray = ByteArray.mk a.toArray ++ ⟨#[47]⟩ ++ ByteArray.mk b.toArray := by
 apply ByteArray.ext
 simp [ByteArray.data_append]
set_option maxRecDepth 100000 in
set_option maxHeartbeats 3200000 in
theorem fstring_any (p q : Int) (s s' : Bool) (A A' : Option Addr) (n c n' c' : Nat) (w : World) (hx : PF w s A n c s' A' n' c' p q) (hp : p.natAbs < lim) (hq : q.natAbs < lim) (hq0 : 0 < q) :
  Calls Tryz.prog 54 #[.agg #[.bool s, .slice A n c, .bool s', .slice A' n' c']] w (RetStr (fracT p q) w) := by
 obtain ⟨W, hW⟩ : ∃ W, w.alloc (.cells #[.bool s, .slice A n c, .bool s', .slice A' n' c'] 35) = W := ⟨_, rfl⟩
 have HK := hJ (show Below w.heap.size w W by rw [← hW]; exact (Below.refl _ w).alloc (Nat.le_refl _) _)
 have HA := hJ (show P4 35 W w.heap.size (.bool s) (.slice A n c) (.bool s') (.slice A' n' c') by rw [← hW]; exact P4.lit _ _ _ _ _ _)
 have hn := plim hx.1 hp
 have hn' := plim hx.2 (dn_lim hq)
 have HX := hJ (hx.new HK.out)
 have HT1 := hJ (decI_short (lim_big hp))
 have HT2 := hJ (decI_short (lim_big hq))
 have HQ0 := hJ hq0
 clear hx hp hq hq0
 obtain ⟨a0, a1, a2, a3⟩ := HA.out.cells
 obtain ⟨h, hh⟩ : ∃ h, w.heap.size = h := ⟨_, rfl⟩
 rw [hh] at HA a0 a1 a2 a3
 by_cases h1 : q = 1
 ·have HE := hJ (show fracT p q = decI p from if_pos h1)
  have HX0 := hJ (PIo.eq HX.out.2 (show dn q = 0 by rw [h1]; rfl))
  clear h1
  go_enter Tryz.func54, Tryz.ntmps54
  go_wp2_with fail
  clear hW hh
  refine (sign_any 0 s' A' n' c' W HX0.out (by omega)).mono ?_
  rw [cmpI_zz]
  rintro e w1 ⟨rfl, hb1⟩
  have HB1 := hJ (bt HK.out hb1)
  have HA1 := hJ (HA.out.new hb1)
  have HX1 := hJ (PIo.new HX.out.1 hb1)
  clear hb1 a0 a1 a2 a3
  obtain ⟨a0, a1, a2, a3⟩ := HA1.out.cells
  go_wp2_with fail
  refine (pstring_any p s A n c w1 HX1.out (by omega)).mono ?_
  rintro e w2 ⟨he, hb2⟩
  rw [← HE.out] at he
  subst he
  have HB2 := hJ (bt HB1.out hb2)
  clear hb2
  go_wp2
  go_ret
  exact ⟨rfl, HB2.out⟩
 ·have HE := hJ (show fracT p q = decI p ++ 47 :: decI q from if_neg h1)
  have HXq := hJ (PIo.eq HX.out.2 (dn_ne h1))
  have HC := hJ (cmpI_zero (y := q) (by have := HQ0.out; omega))
  clear h1
  go_enter Tryz.func54, Tryz.ntmps54
  go_wp2_with fail
  clear hW hh
  refine (sign_any q s' A' n' c' W HXq.out (by omega)).mono ?_
  obtain ⟨u, hu⟩ : ∃ u, cmpI q 0 = u := ⟨_, rfl⟩
  rw [hu] at HC ⊢
  have hc := HC.out
  rintro e w1 ⟨rfl, hb1⟩
  have HB1 := hJ (bt HK.out hb1)
  have HA1 := hJ (HA.out.new hb1)
  have HX1 := hJ (PIo.new HX.out.1 hb1)
  have HY1 := hJ (PIo.new HXq.out hb1)
  clear hb1 a0 a1 a2 a3 hu HC
  obtain ⟨D1, hD1⟩ : ∃ D : ByteArray, ByteArray.mk (decI p).toArray = D := ⟨_, rfl⟩
  obtain ⟨D2, hD2⟩ : ∃ D : ByteArray, ByteArray.mk (decI q).toArray = D := ⟨_, rfl⟩
  have HZ := hJ (show D1.size ≤ 5000 ∧ D2.size ≤ 5000 from ⟨by rw [← hD1]; exact HT1.out, by rw [← hD2]; exact HT2.out⟩)
  have HV := hJ (show ByteArray.mk (fracT p q).toArray = D1 ++ ⟨#[47]⟩ ++ D2 by rw [HE.out, ← hD1, ← hD2]; exact text_sum _ _)
  have HDD := hJ (And.intro hD1 hD2)
  have hp1 : ∀ wx : World, (Op.stringOp .add D1 ⟨#[47]⟩).run Tryz.prog wx = .ok (.string (D1 ++ ⟨#[47]⟩)) wx := fun wx => run_string_add_sum wx _ _ (by have := HZ.out; have e1 : (ByteArray.mk #[47]).size = 1 := rfl; omega)
  have hp2 : ∀ wx : World, (Op.stringOp .add (D1 ++ ⟨#[47]⟩) D2).run Tryz.prog wx = .ok (.string (D1 ++ ⟨#[47]⟩ ++ D2)) wx := fun wx => run_string_add_sum wx _ _ (by have := HZ.out; have e1 : (ByteArray.mk #[47]).size = 1 := rfl; rw [ByteArray.size_append]; omega)
  clear hD1 hD2
  have HS : Hid (∀ w', Below w1.heap.size w1 w' → w'.cell? ⟨h, 0, none⟩ = some (.bool s) ∧ w'.cell? ⟨h, 1, none⟩ = some (.slice A n c) ∧ w'.cell? ⟨h, 2, none⟩ = some (.bool s') ∧ w'.cell? ⟨h, 3, none⟩ = some (.slice A' n' c') ∧ Below w1.heap.size w1 w') := hJ (fun w' hb => ⟨(HA1.out.new hb).cells.1, (HA1.out.new hb).cells.2.1, (HA1.out.new hb).cells.2.2.1, (HA1.out.new hb).cells.2.2.2, hb⟩)
  have HXX := hJ (Below.refl w1.heap.size w1)
  go_wp2_with fail
  clear hc
  obtain ⟨v0, hv0⟩ := nmz (World.drew w1)
  have HD0 := hJ (show Below w1.heap.size w1 v0 by rw [← hv0]; exact (Below.refl _ _).drew)
  have HX_0 := hJ (bt HXX.out HD0.out)
  have X_0 := hJ (PIo.new HX1.out HD0.out)
  have Y_0 := hJ (PIo.new HY1.out HD0.out)
  refine wp_region_held_drew (S := (fun w' : World => w'.cell? ⟨h, 0, none⟩ = some (.bool s) ∧ w'.cell? ⟨h, 1, none⟩ = some (.slice A n c) ∧ w'.cell? ⟨h, 2, none⟩ = some (.bool s') ∧ w'.cell? ⟨h, 3, none⟩ = some (.slice A' n' c') ∧ Below w1.heap.size w1 w')) (by kernel_rfl) ?_ (fun hHeld => ?_)
  ·rw [hv0]
   exact HS.out _ HX_0.out
  rw [hv0] at hHeld ⊢
  clear hv0 HD0
  refine tq 0 ?_
  try simp only [PT]
  refine tq 1 ?_
  try simp only [PT]
  refine tq 4 ?_
  try simp only [PT]
  refine tq 5 ?_
  try simp only [PT]
  refine wpAnyH_ready (rs := [2]) (by kernel_rfl) (by simp) ?_
  refine .cons rfl (fun K hK => ?_) .nil
  go_simp
  go_at_call_of 107 (Value.agg #[.bool s, .slice A n c])
  refine (pstring_any p s A n c v0 (X_0.out) (by omega)).mono ?_
  rintro e v1 ⟨he, hk⟩
  rw [HDD.out.1] at he
  subst he
  have HB_1 := hJ hk
  go_wp2_with fail
  have HX_1 := hJ (bt HX_0.out HB_1.out)
  have X_1 := hJ (PIo.new X_0.out HB_1.out)
  have Y_1 := hJ (PIo.new Y_0.out HB_1.out)
  clear hHeld
  refine hK.out _ _ (HS.out _ HX_1.out) (fun hHeld => ?_)
  clear hK K hk HB_1 HX_0 X_0 Y_0
  try simp only [PT]
  refine tq 3 ?_
  try simp only [PT]
  refine wpAnyH_ready (rs := [6]) (by kernel_rfl) (by simp) ?_
  refine .cons rfl (fun K hK => ?_) .nil
  go_simp
  go_at_call_of 107 (Value.agg #[.bool s', .slice A' n' c'])
  refine (pstring_any q s' A' n' c' v1 (Y_1.out) (by omega)).mono ?_
  rintro e v2 ⟨he, hk⟩
  rw [HDD.out.2] at he
  subst he
  have HB_2 := hJ hk
  go_wp2_with fail
  have HX_2 := hJ (bt HX_1.out HB_2.out)
  have X_2 := hJ (PIo.new X_1.out HB_2.out)
  have Y_2 := hJ (PIo.new Y_1.out HB_2.out)
  clear hHeld
  refine hK.out _ _ (HS.out _ HX_2.out) (fun hHeld => ?_)
  clear hK K hk HB_2 HX_1 X_1 Y_1
  try simp only [PT]
  refine tq 7 ?_
  try simp only [PT]
  refine tq 8 ?_
  try simp only [PT]
  refine wpAnyH_done (by kernel_rfl) ?_ _
  clear hHeld
  have HL := hJ (bt HB1.out HX_2.out)
  go_wp2
  go_ret
  exact ⟨by rw [HV.out]; rfl, HL.out⟩
end Go.Proofs.YtbhnaffbgggabaaGreat
