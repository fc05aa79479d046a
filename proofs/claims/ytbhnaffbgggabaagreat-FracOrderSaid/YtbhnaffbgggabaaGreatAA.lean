/- Contracts of the law's helpers for fractions: number, of, whole, equal, same. Conditions: as each statement has them. -/
import Derived.Test.YtbhnaffbgggabaaGreatFJ
import Derived.Test.YtbhnaffbgggabaaGreatFM
import Derived.Test.YtbhnaffbgggabaaGreatAK
namespace Go.Proofs.YtbhnaffbgggabaaGreat
open Go.RowKit
attribute [local go_sem ↓] Go.wp_at_zero Go.wp_at_succ
theorem rlim {x : Int} {w : World} {s : Bool} {A : Option Addr} {n c : Nat} (h : RN w s A n c x) (hx : x.natAbs < lim) : n ≤ 32 * limE := by
 refine B2.rlen (m := 32 * limE) h ?_
 rw [lim_two] at hx
 exact hx
theorem fr_int {x : Int} (h : (Lit.int .i64 x).wf = true) : Fr x 1 := ⟨low_one x, i64_lim h, one_lim⟩
/-- Do two fractions in lowest terms have the same text? -/
def eqF (p q r s : Int) : Bool := decide (p = r ∧ q = s)
theorem eqF_self (p q : Int) : eqF p q p q = true := decide_eq_true ⟨rfl, rfl⟩
theorem dec_slash (x : Int) : (47 : UInt8) ∉ decI x := by
 have h1 := isDig_dec x.natAbs
 intro h
 unfold decI at h
 have hd : (47 : UInt8) ∉ dec x.natAbs := fun h2 => by
  have := h1 _ h2
  exact absurd this.1 (by decide)
 split at h
 ·rcases List.mem_cons.1 h with h | h
  ·exact absurd h (by decide)
  ·exact hd h
 ·exact hd h
theorem cut_inj {a b c d : List UInt8} (ha : (47 : UInt8) ∉ a) (hc : (47 : UInt8) ∉ c) (h : a ++ 47 :: b = c ++ 47 :: d) : a = c ∧ b = d := by
 induction a generalizing c with
 | nil => cases c with
  | nil => simp at h; exact ⟨rfl, h⟩
  | cons y c => simp at h; exact absurd (by rw [← h.1]; exact List.mem_cons_self) hc
 | cons x a ih => cases c with
  | nil => simp at h; exact absurd (by rw [h.1]; exact List.mem_cons_self) ha
  | cons y c =>
   simp at h
   obtain ⟨e1, e2⟩ := ih (fun hm => ha (List.mem_cons_of_mem _ hm)) (fun hm => hc (List.mem_cons_of_mem _ hm)) h.2
   exact ⟨by rw [h.1, e1], e2⟩
theorem fracT_eq {p q r s : Int} (h : fracT p q = fracT r s) : p = r ∧ q = s := by
 unfold fracT at h
 by_cases h1 : q = 1 <;> by_cases h2 : s = 1
 ·rw [if_pos h1, if_pos h2] at h; exact ⟨decI_inj h, by rw [h1, h2]⟩
 ·rw [if_pos h1, if_neg h2] at h; exact absurd (by rw [h]; exact List.mem_append_right _ List.mem_cons_self) (dec_slash p)
 ·rw [if_neg h1, if_pos h2] at h; exact absurd (by rw [← h]; exact List.mem_append_right _ List.mem_cons_self) (dec_slash r)
 ·rw [if_neg h1, if_neg h2] at h
  obtain ⟨e1, e2⟩ := cut_inj (dec_slash p) (dec_slash r) h
  exact ⟨decI_inj e1, decI_inj e2⟩
set_option maxRecDepth 100000 in
set_option maxHeartbeats 1600000 in
theorem l4num_any (x : Int) (s0 : Bool) (A0 : Option Addr) (n0 c0 : Nat) (w : World) (hx : RN w s0 A0 n0 c0 x) (hn : n0 ≤ 150000) (hl : x.natAbs < lim) :
  Calls Tryz.prog 23 #[.agg #[.bool s0, .slice A0 n0 c0]] w (RetP x w) := by
 have HP0 := hJ hx
 have hps := ps_decI (lim_big hl)
 rw [in_lim hl |>.1, in_lim hl |>.2] at hps
 have HPS := hJ hps
 have HSH := hJ (decI_short (lim_big hl))
 have HNN := hJ hn
 clear hx hps hl hn
 obtain ⟨x1, hx1⟩ := nmz ((w.alloc (.cells #[.bool s0, .slice A0 n0 c0] 24)).alloc (.cells #[.bool false, .slice none 0 0] 33))
 have HB1 := hJ (show Below w.heap.size w x1 by rw [← hx1]; exact (((Below.refl _ _).alloc (Nat.le_refl _) _).alloc (by simp only [World.size_alloc]; omega) _))
 have HQ1x0 := hJ (show BX 24 x1 w.heap.size #[.bool s0, .slice A0 n0 c0] by rw [← hx1]; exact ((BX.at rfl).alloc _))
 have HG1x0 := hJ (show w.heap.size ≤ w.heap.size by omega)
 have HL1x0 := hJ (show w.heap.size < x1.heap.size from HQ1x0.out.lt)
 have HQ1x1 := hJ (show BX 33 x1 (w.heap.size + 1) #[.bool false, .slice none 0 0] by rw [← hx1]; exact (BX.at (by simp only [World.size_alloc])))
 have HG1x1 := hJ (show w.heap.size ≤ w.heap.size + 1 by omega)
 have HL1x1 := hJ (show w.heap.size + 1 < x1.heap.size from HQ1x1.out.lt)
 obtain ⟨cl2, cl3⟩ := HQ1x0.out.c2 0 1 rfl rfl
 have HP0w1 := hJ (RNo.new HP0.out HB1.out)
 go_enter Tryz.func23, Tryz.ntmps23
 go_wp2_with fail
 clear hx1 cl2 cl3
 refine (text_any x s0 A0 n0 c0 x1 HP0w1.out HNN.out).mono ?_
 rintro e w4 ⟨rfl, hb⟩
 have HB4 := hJ hb
 clear hb
 go_wp2_with fail
 refine (pparse_any (decI x) w4 (by have := HSH.out; omega)).mono ?_
 rw [HPS.out.1, HPS.out.2]
 rintro e w5 ⟨s11, A11, n11, c11, rfl, hr11, hb⟩
 have HB5 := hJ hb
 have HR5hr11 := hJ hr11
 clear hb hr11
 obtain ⟨x6, hx6⟩ := nmz (w5.alloc (.cells #[.bool s11, .slice A11 n11 c11] 33))
 have HB6 := hJ (show Below w5.heap.size w5 x6 by rw [← hx6]; exact ((Below.refl _ _).alloc (Nat.le_refl _) _))
 have HQ6x0 := hJ (show BX 33 x6 w5.heap.size #[.bool s11, .slice A11 n11 c11] by rw [← hx6]; exact (BX.at rfl))
 have HG6x0 := hJ (show w5.heap.size ≤ w5.heap.size by omega)
 have HL6x0 := hJ (show w5.heap.size < x6.heap.size from HQ6x0.out.lt)
 obtain ⟨cl7, cl8⟩ := HQ6x0.out.c2 0 1 rfl rfl
 have HC1_4 := hJ (bt (bt HB4.out HB5.out) HB6.out)
 have HQ1x1w4 := hJ (BX.new HQ1x1.out HC1_4.out)
 have fz9_0 := HQ1x1w4.out.frozen 0
 have fc9_0 := HQ1x1w4.out.cell 0 rfl
 have fz9_1 := HQ1x1w4.out.frozen 1
 have fc9_1 := HQ1x1w4.out.cell 1 rfl
 obtain ⟨x9, hx9⟩ := nmz (World.setCell (World.setCell x6 ⟨w.heap.size + 1, 0, none⟩ (.bool s11)) ⟨w.heap.size + 1, 1, none⟩ (.slice A11 n11 c11))
 have HE9 := hJ (show sto x6 (w.heap.size + 1) 0 [.bool s11, .slice A11 n11 c11] = x9 from hx9)
 have HQ9s := hJ (show BX 33 x9 (w.heap.size + 1) #[.bool s11, .slice A11 n11 c11] by rw [← HE9.out]; exact BX.put HQ1x1w4.out _ _)
 have HC0_5 := hJ (show Below w.heap.size w x9 by rw [← HE9.out]; exact below_sto (bt (bt (bt HB1.out HB4.out) HB5.out) HB6.out) HG1x1.out _ _)
 have HR5hr11w4 := hJ (PIo.new HR5hr11.out HB6.out)
 have HR5hr11w5 := hJ (show PI x9 s11 A11 n11 c11 x by rw [← HE9.out]; exact PIo.sto HR5hr11w4.out HQ1x1w4.out rfl _ _)
 go_wp2
 clear hx6 cl7 cl8 fz9_0 fc9_0 fz9_1 fc9_1 hx9
 exact bodyPost_ret (results_cell_row rfl _ _ _ _ _ _ _ rfl HQ9s.out Tryz.underlying33 rfl W_size) rfl ⟨s11, A11, n11, c11, rfl, HR5hr11w5.out, HC0_5.out⟩
set_option maxRecDepth 100000 in
set_option maxHeartbeats 1600000 in
theorem l4whole_any (x : Int) (w : World) (hx : (Lit.int .i64 x).wf = true) :
  Calls Tryz.prog 27 #[.int .i64 x] w (RetF x 1 w) := by
 have HW := hJ hx
 clear hx
 obtain ⟨x1, hx1⟩ := nmz (w.alloc (.cells #[.bool false, .slice none 0 0, .bool false, .slice none 0 0] 35))
 have HB1 := hJ (show Below w.heap.size w x1 by rw [← hx1]; exact ((Below.refl _ _).alloc (Nat.le_refl _) _))
 have HQ1x0 := hJ (show BX 35 x1 w.heap.size #[.bool false, .slice none 0 0, .bool false, .slice none 0 0] by rw [← hx1]; exact (BX.at rfl))
 have HG1x0 := hJ (show w.heap.size ≤ w.heap.size by omega)
 have HL1x0 := hJ (show w.heap.size < x1.heap.size from HQ1x0.out.lt)
 go_enter Tryz.func27, Tryz.ntmps27
 go_wp2_with fail
 clear hx1
 refine (fof_any x 1 x1 HW.out (by decide)).mono ?_
 rw [(mk_self (low_one x)).1, (mk_self (low_one x)).2, show mkC 1 = 0 from rfl]
 rintro e w2 ⟨s11, A11, n11, c11, t11, B11, m11, d11, rfl, hr11, hb⟩
 have HB2 := hJ hb
 have HR2hr11 := hJ hr11
 clear hb hr11
 obtain ⟨x3, hx3⟩ := nmz (w2.alloc (.cells #[.bool s11, .slice A11 n11 c11, .bool t11, .slice B11 m11 d11] 35))
 have HB3 := hJ (show Below w2.heap.size w2 x3 by rw [← hx3]; exact ((Below.refl _ _).alloc (Nat.le_refl _) _))
 have HQ3x0 := hJ (show BX 35 x3 w2.heap.size #[.bool s11, .slice A11 n11 c11, .bool t11, .slice B11 m11 d11] by rw [← hx3]; exact (BX.at rfl))
 have HG3x0 := hJ (show w2.heap.size ≤ w2.heap.size by omega)
 have HL3x0 := hJ (show w2.heap.size < x3.heap.size from HQ3x0.out.lt)
 obtain ⟨cl4, cl5, cl6, cl7⟩ := HQ3x0.out.c4 0 1 2 3 rfl rfl rfl rfl
 have HC1_3 := hJ (bt HB2.out HB3.out)
 have HQ1x0w3 := hJ (BX.new HQ1x0.out HC1_3.out)
 have fz8_0 := HQ1x0w3.out.frozen 0
 have fc8_0 := HQ1x0w3.out.cell 0 rfl
 have fz8_1 := HQ1x0w3.out.frozen 1
 have fc8_1 := HQ1x0w3.out.cell 1 rfl
 have fz8_2 := HQ1x0w3.out.frozen 2
 have fc8_2 := HQ1x0w3.out.cell 2 rfl
 have fz8_3 := HQ1x0w3.out.frozen 3
 have fc8_3 := HQ1x0w3.out.cell 3 rfl
 obtain ⟨x8, hx8⟩ := nmz (World.setCell (World.setCell (World.setCell (World.setCell x3 ⟨w.heap.size, 0, none⟩ (.bool s11)) ⟨w.heap.size, 1, none⟩ (.slice A11 n11 c11)) ⟨w.heap.size, 2, none⟩ (.bool t11)) ⟨w.heap.size, 3, none⟩ (.slice B11 m11 d11))
 have HE8 := hJ (show sto x3 w.heap.size 0 [.bool s11, .slice A11 n11 c11, .bool t11, .slice B11 m11 d11] = x8 from hx8)
 have HQ8s := hJ (show BX 35 x8 w.heap.size #[.bool s11, .slice A11 n11 c11, .bool t11, .slice B11 m11 d11] by rw [← HE8.out]; exact BX.put HQ1x0w3.out _ _)
 have HC0_4 := hJ (show Below w.heap.size w x8 by rw [← HE8.out]; exact below_sto (bt (bt HB1.out HB2.out) HB3.out) HG1x0.out _ _)
 have HR2hr11w3 := hJ (PF.new HR2hr11.out HB3.out)
 have HR2hr11w4 := hJ (show PF x8 s11 A11 n11 c11 t11 B11 m11 d11 x 1 by rw [← HE8.out]; exact PF.sto HR2hr11w3.out HQ1x0w3.out rfl _ _)
 go_wp2
 clear hx3 cl4 cl5 cl6 cl7 fz8_0 fc8_0 fz8_1 fc8_1 fz8_2 fc8_2 fz8_3 fc8_3 hx8
 exact bodyPost_ret (results_cell_row rfl _ _ _ _ _ _ _ rfl HQ8s.out Tryz.underlying35 rfl F_size) rfl ⟨s11, A11, n11, c11, t11, B11, m11, d11, rfl, HR2hr11w4.out, HC0_4.out⟩
set_option maxRecDepth 100000 in
set_option maxHeartbeats 1600000 in
theorem l4of_any (p q : Int) (s0 : Bool) (A0 : Option Addr) (n0 c0 : Nat) (t0 : Bool) (B0 : Option Addr) (m0 d0 : Nat) (w : World) (hp : RN w s0 A0 n0 c0 p) (hq : RN w t0 B0 m0 d0 q) (hf : Fr p q) :
  Calls Tryz.prog 32 #[.agg #[.bool s0, .slice A0 n0 c0, .bool t0, .slice B0 m0 d0]] w (RetF p q w) := by
 have HP0 := hJ hp
 have HP1 := hJ hq
 have HF0 := hJ hf
 clear hp hq hf
 obtain ⟨x1, hx1⟩ := nmz ((w.alloc (.cells #[.bool s0, .slice A0 n0 c0, .bool t0, .slice B0 m0 d0] 41)).alloc (.cells #[.bool false, .slice none 0 0, .bool false, .slice none 0 0] 35))
 have HB1 := hJ (show Below w.heap.size w x1 by rw [← hx1]; exact (((Below.refl _ _).alloc (Nat.le_refl _) _).alloc (by simp only [World.size_alloc]; omega) _))
 have HQ1x0 := hJ (show BX 41 x1 w.heap.size #[.bool s0, .slice A0 n0 c0, .bool t0, .slice B0 m0 d0] by rw [← hx1]; exact ((BX.at rfl).alloc _))
 have HG1x0 := hJ (show w.heap.size ≤ w.heap.size by omega)
 have HL1x0 := hJ (show w.heap.size < x1.heap.size from HQ1x0.out.lt)
 have HQ1x1 := hJ (show BX 35 x1 (w.heap.size + 1) #[.bool false, .slice none 0 0, .bool false, .slice none 0 0] by rw [← hx1]; exact (BX.at (by simp only [World.size_alloc])))
 have HG1x1 := hJ (show w.heap.size ≤ w.heap.size + 1 by omega)
 have HL1x1 := hJ (show w.heap.size + 1 < x1.heap.size from HQ1x1.out.lt)
 have HS2 : Hid (∀ w', Below x1.heap.size x1 w' → (fun w' : World => w'.cell? ⟨w.heap.size, 0, none⟩ = some (.bool s0) ∧ w'.cell? ⟨w.heap.size, 1, none⟩ = some (.slice A0 n0 c0) ∧ w'.cell? ⟨w.heap.size, 2, none⟩ = some (.bool t0) ∧ w'.cell? ⟨w.heap.size, 3, none⟩ = some (.slice B0 m0 d0) ∧ Below x1.heap.size x1 w') w') := hJ (fun w' hb => ⟨(BX.new HQ1x0.out hb).cell 0 rfl, (BX.new HQ1x0.out hb).cell 1 rfl, (BX.new HQ1x0.out hb).cell 2 rfl, (BX.new HQ1x0.out hb).cell 3 rfl, hb⟩)
 have HP0w1 := hJ (RNo.new HP0.out HB1.out)
 have HP1w1 := hJ (RNo.new HP1.out HB1.out)
 go_enter Tryz.func32, Tryz.ntmps32
 go_wp2_with fail
 clear hx1
 obtain ⟨v2, hv2⟩ := nmz (World.drew x1)
 have HX2 := hJ (show Below x1.heap.size x1 v2 by rw [← hv2]; exact (Below.refl _ _).drew)
 refine wp_region_held_drew (S := (fun w' : World => w'.cell? ⟨w.heap.size, 0, none⟩ = some (.bool s0) ∧ w'.cell? ⟨w.heap.size, 1, none⟩ = some (.slice A0 n0 c0) ∧ w'.cell? ⟨w.heap.size, 2, none⟩ = some (.bool t0) ∧ w'.cell? ⟨w.heap.size, 3, none⟩ = some (.slice B0 m0 d0) ∧ Below x1.heap.size x1 w')) (by kernel_rfl) ?_ (fun hHeld => ?_)
 ·rw [hv2]
  exact HS2.out _ HX2.out
 rw [hv2] at hHeld ⊢
 clear hv2
 refine tq 0 ?_
 try simp only [PT]
 refine tq 1 ?_
 try simp only [PT]
 refine tq 3 ?_
 try simp only [PT]
 refine tq 4 ?_
 try simp only [PT]
 refine wpAnyH_name (fun F hF a0 ha0 L0 hL0 => ?_)
 have J1_2_5_6_10 : ∀ (s11 : Bool) (A11 : Option Addr) (n11 : Nat) (c11 : Nat) (s12 : Bool) (A12 : Option Addr) (n12 : Nat) (c12 : Nat) (s13 : Bool) (A13 : Option Addr) (n13 : Nat) (c13 : Nat) (t13 : Bool) (B13 : Option Addr) (m13 : Nat) (d13 : Nat) (g1_10 : Nat) (v : World), Hid (Below x1.heap.size x1 v) → Hid (PI v s11 A11 n11 c11 p) → Hid (PI v s12 A12 n12 c12 q) → Hid (PF v s13 A13 n13 c13 t13 B13 m13 d13 p q) → Hid (BX 35 v g1_10 #[.bool false, .slice none 0 0, .bool false, .slice none 0 0]) → Hid (x1.heap.size ≤ g1_10) → F 2 (Array.setIfInBounds (Array.setIfInBounds (Array.setIfInBounds (Array.setIfInBounds (Array.setIfInBounds (Array.setIfInBounds (Array.setIfInBounds L0 2 true) 5 true) 6 true) 10 true) 7 true) 8 true) 9 true) (Act.put (Act.put (Act.put (Act.put (Act.put (Act.put (Act.put a0 (some 8) (.agg #[.bool s11, .slice A11 n11 c11])) (some 11) (.agg #[.bool s12, .slice A12 n12 c12])) (some 12) (.tuple #[.agg #[.bool s13, .slice A13 n13 c13, .bool t13, .slice B13 m13 d13], .int .i64 0])) (some 3) (.pointer (some ⟨g1_10, 0, none⟩))) (some 5) (.tuple #[.agg #[.bool s13, .slice A13 n13 c13, .bool t13, .slice B13 m13 d13], .int .i64 0])) (some 13) (.agg #[.bool s13, .slice A13 n13 c13, .bool t13, .slice B13 m13 d13])) (some 14) (.int .i64 0)) v := by
  intro s11 A11 n11 c11 s12 A12 n12 c12 s13 A13 n13 c13 t13 B13 m13 d13 g1_10 v HXj HZ2hr11j HZ5hr12j HZ6hr13j HPg1_10j HGg1_10j
  subst hF ha0 hL0
  simp only [PT] at  ⊢
  have hHeld := HS2.out _ HXj.out
  refine wpAnyH_ready (rs := [11]) (by kernel_rfl) (by simp) ?_
  refine .cons rfl (fun K hK => ?_) .nil
  have z3_0 := HPg1_10j.out.cell 0 rfl
  have y3_0 := HPg1_10j.out.frozen 0
  have z3_1 := HPg1_10j.out.cell 1 rfl
  have y3_1 := HPg1_10j.out.frozen 1
  have z3_2 := HPg1_10j.out.cell 2 rfl
  have y3_2 := HPg1_10j.out.frozen 2
  have z3_3 := HPg1_10j.out.cell 3 rfl
  have y3_3 := HPg1_10j.out.frozen 3
  have z3 := HPg1_10j.out.lt
  go_simp
  obtain ⟨v3, hV⟩ := nmz (World.setCell (World.setCell (World.setCell (World.setCell v ⟨g1_10, 0, none⟩ (.bool s13)) ⟨g1_10, 1, none⟩ (.slice A13 n13 c13)) ⟨g1_10, 2, none⟩ (.bool t13)) ⟨g1_10, 3, none⟩ (.slice B13 m13 d13))
  rw [hV]
  have HE3 := hJ (show sto v g1_10 0 [.bool s13, .slice A13 n13 c13, .bool t13, .slice B13 m13 d13] = v3 from hV)
  clear hV z3 z3_0 y3_0 z3_1 y3_1 z3_2 y3_2 z3_3 y3_3
  have HX3 := hJ (show Below x1.heap.size x1 v3 by rw [← HE3.out]; exact below_sto HXj.out HGg1_10j.out _ _)
  have HZ3_0 := hJ (show PI v3 s11 A11 n11 c11 p by rw [← HE3.out]; exact PIo.sto HZ2hr11j.out HPg1_10j.out rfl _ _)
  have HZ3_1 := hJ (show PI v3 s12 A12 n12 c12 q by rw [← HE3.out]; exact PIo.sto HZ5hr12j.out HPg1_10j.out rfl _ _)
  have HZ3_2 := hJ (show PF v3 s13 A13 n13 c13 t13 B13 m13 d13 p q by rw [← HE3.out]; exact PF.sto HZ6hr13j.out HPg1_10j.out rfl _ _)
  have HP3g1_10 := hJ (show BX 35 v3 g1_10 #[.bool s13, .slice A13 n13 c13, .bool t13, .slice B13 m13 d13] by rw [← HE3.out]; exact BX.put HPg1_10j.out _ _)
  clear hHeld
  refine hK.out _ _ (HS2.out _ HX3.out) (fun hHeld => ?_)
  clear hK K
  try simp only [PT]
  refine tq 12 ?_
  try simp only [PT]
  refine wpAnyH_done (by kernel_rfl) ?_ _
  clear hHeld
  have HL4 := hJ (show g1_10 < v3.heap.size from HP3g1_10.out.lt)
  obtain ⟨cl5, cl6, cl7, cl8⟩ := HP3g1_10.out.c4 0 1 2 3 rfl rfl rfl rfl
  have HQ1x1w2 := hJ (BX.new HQ1x1.out HX3.out)
  have fz9_0 := HQ1x1w2.out.frozen 0
  have fc9_0 := HQ1x1w2.out.cell 0 rfl
  have fz9_1 := HQ1x1w2.out.frozen 1
  have fc9_1 := HQ1x1w2.out.cell 1 rfl
  have fz9_2 := HQ1x1w2.out.frozen 2
  have fc9_2 := HQ1x1w2.out.cell 2 rfl
  have fz9_3 := HQ1x1w2.out.frozen 3
  have fc9_3 := HQ1x1w2.out.cell 3 rfl
  obtain ⟨x9, hx9⟩ := nmz (World.setCell (World.setCell (World.setCell (World.setCell v3 ⟨w.heap.size + 1, 0, none⟩ (.bool s13)) ⟨w.heap.size + 1, 1, none⟩ (.slice A13 n13 c13)) ⟨w.heap.size + 1, 2, none⟩ (.bool t13)) ⟨w.heap.size + 1, 3, none⟩ (.slice B13 m13 d13))
  have HE9 := hJ (show sto v3 (w.heap.size + 1) 0 [.bool s13, .slice A13 n13 c13, .bool t13, .slice B13 m13 d13] = x9 from hx9)
  have HQ9s := hJ (show BX 35 x9 (w.heap.size + 1) #[.bool s13, .slice A13 n13 c13, .bool t13, .slice B13 m13 d13] by rw [← HE9.out]; exact BX.put HQ1x1w2.out _ _)
  have HC0_3 := hJ (show Below w.heap.size w x9 by rw [← HE9.out]; exact below_sto (bt HB1.out HX3.out) HG1x1.out _ _)
  have HZ3_2w3 := hJ (show PF x9 s13 A13 n13 c13 t13 B13 m13 d13 p q by rw [← HE9.out]; exact PF.sto HZ3_2.out HQ1x1w2.out rfl _ _)
  go_wp2
  clear cl5 cl6 cl7 cl8 fz9_0 fc9_0 fz9_1 fc9_1 fz9_2 fc9_2 fz9_3 fc9_3 hx9
  exact bodyPost_ret (results_cell_row rfl _ _ _ _ _ _ _ rfl HQ9s.out Tryz.underlying35 rfl F_size) rfl ⟨s13, A13, n13, c13, t13, B13, m13, d13, rfl, HZ3_2w3.out, HC0_3.out⟩
 have J1_2_5_6 : ∀ (s11 : Bool) (A11 : Option Addr) (n11 : Nat) (c11 : Nat) (s12 : Bool) (A12 : Option Addr) (n12 : Nat) (c12 : Nat) (s13 : Bool) (A13 : Option Addr) (n13 : Nat) (c13 : Nat) (t13 : Bool) (B13 : Option Addr) (m13 : Nat) (d13 : Nat) (v : World), Hid (Below x1.heap.size x1 v) → Hid (PI v s11 A11 n11 c11 p) → Hid (PI v s12 A12 n12 c12 q) → Hid (PF v s13 A13 n13 c13 t13 B13 m13 d13 p q) → F 3 (Array.setIfInBounds (Array.setIfInBounds (Array.setIfInBounds (Array.setIfInBounds (Array.setIfInBounds (Array.setIfInBounds L0 2 true) 5 true) 6 true) 7 true) 8 true) 9 true) (Act.put (Act.put (Act.put (Act.put (Act.put (Act.put a0 (some 8) (.agg #[.bool s11, .slice A11 n11 c11])) (some 11) (.agg #[.bool s12, .slice A12 n12 c12])) (some 12) (.tuple #[.agg #[.bool s13, .slice A13 n13 c13, .bool t13, .slice B13 m13 d13], .int .i64 0])) (some 5) (.tuple #[.agg #[.bool s13, .slice A13 n13 c13, .bool t13, .slice B13 m13 d13], .int .i64 0])) (some 13) (.agg #[.bool s13, .slice A13 n13 c13, .bool t13, .slice B13 m13 d13])) (some 14) (.int .i64 0)) v := by
  intro s11 A11 n11 c11 s12 A12 n12 c12 s13 A13 n13 c13 t13 B13 m13 d13 v HXj HZ2hr11j HZ5hr12j HZ6hr13j
  subst hF ha0 hL0
  simp only [PT] at J1_2_5_6_10 ⊢
  have hHeld := HS2.out _ HXj.out
  refine wpAnyH_ready (rs := [10]) (by kernel_rfl) (by simp) ?_
  refine .cons rfl (fun K hK => ?_) .nil
  go_simp
  have HB10 := hJ ((Below.refl v.heap.size v).alloc (Nat.le_refl _) (.cells #[.bool false, .slice none 0 0, .bool false, .slice none 0 0] 35))
  have HP10 := hJ (BX.lit v 35 #[.bool false, .slice none 0 0, .bool false, .slice none 0 0])
  obtain ⟨v10, hV⟩ := nmz (World.alloc v (.cells #[.bool false, .slice none 0 0, .bool false, .slice none 0 0] 35))
  obtain ⟨g1_10, hg⟩ := nmz (v.heap.size)
  rw [hV] at HB10 HP10 ⊢
  rw [hg] at HP10 ⊢
  have HG10 := hJ (show x1.heap.size ≤ g1_10 by rw [← hg]; exact HXj.out.size)
  clear hV hg
  have HX10 := hJ (bt HXj.out HB10.out)
  have HZ10_0 := hJ (PIo.new HZ2hr11j.out HB10.out)
  have HZ10_1 := hJ (PIo.new HZ5hr12j.out HB10.out)
  have HZ10_2 := hJ (PF.new HZ6hr13j.out HB10.out)
  clear hHeld
  refine hK.out _ _ (HS2.out _ HX10.out) (fun hHeld => ?_)
  clear hK K
  try simp only [PT]
  exact wpAnyH_cast (by kernel_rfl) (J1_2_5_6_10 s11 A11 n11 c11 s12 A12 n12 c12 s13 A13 n13 c13 t13 B13 m13 d13 g1_10 v10 HX10 HZ10_0 HZ10_1 HZ10_2 HP10 HG10)
 have J1_2_5_10 : ∀ (s11 : Bool) (A11 : Option Addr) (n11 : Nat) (c11 : Nat) (s12 : Bool) (A12 : Option Addr) (n12 : Nat) (c12 : Nat) (g1_10 : Nat) (v : World), Hid (Below x1.heap.size x1 v) → Hid (PI v s11 A11 n11 c11 p) → Hid (PI v s12 A12 n12 c12 q) → Hid (BX 35 v g1_10 #[.bool false, .slice none 0 0, .bool false, .slice none 0 0]) → Hid (x1.heap.size ≤ g1_10) → F 6 (Array.setIfInBounds (Array.setIfInBounds (Array.setIfInBounds L0 2 true) 5 true) 10 true) (Act.put (Act.put (Act.put a0 (some 8) (.agg #[.bool s11, .slice A11 n11 c11])) (some 11) (.agg #[.bool s12, .slice A12 n12 c12])) (some 3) (.pointer (some ⟨g1_10, 0, none⟩))) v := by
  intro s11 A11 n11 c11 s12 A12 n12 c12 g1_10 v HXj HZ2hr11j HZ5hr12j HPg1_10j HGg1_10j
  subst hF ha0 hL0
  simp only [PT] at J1_2_5_6_10 ⊢
  have hHeld := HS2.out _ HXj.out
  refine wpAnyH_ready (rs := [6]) (by kernel_rfl) (by simp) ?_
  refine .cons rfl (fun K hK => ?_) .nil
  go_simp
  go_at_call 22
  refine (fmake_any p q s11 s12 A11 A12 n11 c11 n12 c12 v HZ2hr11j.out HZ5hr12j.out HF0.out.2.1 HF0.out.2.2).mono ?_
  rw [(mk_self HF0.out.1).1, (mk_self HF0.out.1).2, show mkC q = 0 from if_neg (by have := HF0.out.1.1; omega)]
  rintro e v11 ⟨s13, A13, n13, c13, t13, B13, m13, d13, rfl, hr13, hb⟩
  have HB11 := hJ hb
  have HR11hr13 := hJ hr13
  clear hb hr13
  go_wp2_with fail
  have HX11 := hJ (bt HXj.out HB11.out)
  have HZ11_0 := hJ (PIo.new HZ2hr11j.out HB11.out)
  have HZ11_1 := hJ (PIo.new HZ5hr12j.out HB11.out)
  have HP11g1_10 := hJ (BX.new HPg1_10j.out HB11.out)
  clear hHeld
  refine hK.out _ _ (HS2.out _ HX11.out) (fun hHeld => ?_)
  clear hK K
  try simp only [PT]
  refine tq 7 ?_
  try simp only [PT]
  refine tq 8 ?_
  try simp only [PT]
  refine tq 9 ?_
  try simp only [PT]
  exact wpAnyH_cast (by kernel_rfl) (J1_2_5_6_10 s11 A11 n11 c11 s12 A12 n12 c12 s13 A13 n13 c13 t13 B13 m13 d13 g1_10 v11 HX11 HZ11_0 HZ11_1 HR11hr13 HP11g1_10 HGg1_10j)
 have J1_2_5 : ∀ (s11 : Bool) (A11 : Option Addr) (n11 : Nat) (c11 : Nat) (s12 : Bool) (A12 : Option Addr) (n12 : Nat) (c12 : Nat) (v : World), Hid (Below x1.heap.size x1 v) → Hid (PI v s11 A11 n11 c11 p) → Hid (PI v s12 A12 n12 c12 q) → F 7 (Array.setIfInBounds (Array.setIfInBounds L0 2 true) 5 true) (Act.put (Act.put a0 (some 8) (.agg #[.bool s11, .slice A11 n11 c11])) (some 11) (.agg #[.bool s12, .slice A12 n12 c12])) v := by
  intro s11 A11 n11 c11 s12 A12 n12 c12 v HXj HZ2hr11j HZ5hr12j
  subst hF ha0 hL0
  simp only [PT] at J1_2_5_6 J1_2_5_10 ⊢
  have hHeld := HS2.out _ HXj.out
  refine wpAnyH_ready (rs := [6, 10]) (by kernel_rfl) (by simp) ?_
  refine .cons rfl (fun K hK => ?_) ?_
  go_simp
  go_at_call 22
  refine (fmake_any p q s11 s12 A11 A12 n11 c11 n12 c12 v HZ2hr11j.out HZ5hr12j.out HF0.out.2.1 HF0.out.2.2).mono ?_
  rw [(mk_self HF0.out.1).1, (mk_self HF0.out.1).2, show mkC q = 0 from if_neg (by have := HF0.out.1.1; omega)]
  rintro e v12 ⟨s13, A13, n13, c13, t13, B13, m13, d13, rfl, hr13, hb⟩
  have HB12 := hJ hb
  have HR12hr13 := hJ hr13
  clear hb hr13
  go_wp2_with fail
  have HX12 := hJ (bt HXj.out HB12.out)
  have HZ12_0 := hJ (PIo.new HZ2hr11j.out HB12.out)
  have HZ12_1 := hJ (PIo.new HZ5hr12j.out HB12.out)
  clear hHeld
  refine hK.out _ _ (HS2.out _ HX12.out) (fun hHeld => ?_)
  clear hK K
  try simp only [PT]
  refine tq 7 ?_
  try simp only [PT]
  refine tq 8 ?_
  try simp only [PT]
  refine tq 9 ?_
  try simp only [PT]
  exact wpAnyH_cast (by kernel_rfl) (J1_2_5_6 s11 A11 n11 c11 s12 A12 n12 c12 s13 A13 n13 c13 t13 B13 m13 d13 v12 HX12 HZ12_0 HZ12_1 HR12hr13)
  refine .cons rfl (fun K hK => ?_) .nil
  go_simp
  have HB13 := hJ ((Below.refl v.heap.size v).alloc (Nat.le_refl _) (.cells #[.bool false, .slice none 0 0, .bool false, .slice none 0 0] 35))
  have HP13 := hJ (BX.lit v 35 #[.bool false, .slice none 0 0, .bool false, .slice none 0 0])
  obtain ⟨v13, hV⟩ := nmz (World.alloc v (.cells #[.bool false, .slice none 0 0, .bool false, .slice none 0 0] 35))
  obtain ⟨g1_10, hg⟩ := nmz (v.heap.size)
  rw [hV] at HB13 HP13 ⊢
  rw [hg] at HP13 ⊢
  have HG13 := hJ (show x1.heap.size ≤ g1_10 by rw [← hg]; exact HXj.out.size)
  clear hV hg
  have HX13 := hJ (bt HXj.out HB13.out)
  have HZ13_0 := hJ (PIo.new HZ2hr11j.out HB13.out)
  have HZ13_1 := hJ (PIo.new HZ5hr12j.out HB13.out)
  clear hHeld
  refine hK.out _ _ (HS2.out _ HX13.out) (fun hHeld => ?_)
  clear hK K
  try simp only [PT]
  exact wpAnyH_cast (by kernel_rfl) (J1_2_5_10 s11 A11 n11 c11 s12 A12 n12 c12 g1_10 v13 HX13 HZ13_0 HZ13_1 HP13 HG13)
 have J1_2_10 : ∀ (s11 : Bool) (A11 : Option Addr) (n11 : Nat) (c11 : Nat) (g1_10 : Nat) (v : World), Hid (Below x1.heap.size x1 v) → Hid (PI v s11 A11 n11 c11 p) → Hid (BX 35 v g1_10 #[.bool false, .slice none 0 0, .bool false, .slice none 0 0]) → Hid (x1.heap.size ≤ g1_10) → F 7 (Array.setIfInBounds (Array.setIfInBounds L0 2 true) 10 true) (Act.put (Act.put a0 (some 8) (.agg #[.bool s11, .slice A11 n11 c11])) (some 3) (.pointer (some ⟨g1_10, 0, none⟩))) v := by
  intro s11 A11 n11 c11 g1_10 v HXj HZ2hr11j HPg1_10j HGg1_10j
  subst hF ha0 hL0
  simp only [PT] at J1_2_5_10 ⊢
  have hHeld := HS2.out _ HXj.out
  refine wpAnyH_ready (rs := [5]) (by kernel_rfl) (by simp) ?_
  refine .cons rfl (fun K hK => ?_) .nil
  go_simp
  go_at_call 23
  refine (l4num_any q t0 B0 m0 d0 v (RNo.new HP1w1.out HXj.out) (Nat.le_trans (rlim (RNo.new HP1w1.out HXj.out) HF0.out.2.2) (by decide)) HF0.out.2.2).mono ?_
  rintro e v14 ⟨s12, A12, n12, c12, rfl, hr12, hb⟩
  have HB14 := hJ hb
  have HR14hr12 := hJ hr12
  clear hb hr12
  go_wp2_with fail
  have HX14 := hJ (bt HXj.out HB14.out)
  have HZ14_0 := hJ (PIo.new HZ2hr11j.out HB14.out)
  have HP14g1_10 := hJ (BX.new HPg1_10j.out HB14.out)
  clear hHeld
  refine hK.out _ _ (HS2.out _ HX14.out) (fun hHeld => ?_)
  clear hK K
  try simp only [PT]
  exact wpAnyH_cast (by kernel_rfl) (J1_2_5_10 s11 A11 n11 c11 s12 A12 n12 c12 g1_10 v14 HX14 HZ14_0 HR14hr12 HP14g1_10 HGg1_10j)
 have J1_2 : ∀ (s11 : Bool) (A11 : Option Addr) (n11 : Nat) (c11 : Nat) (v : World), Hid (Below x1.heap.size x1 v) → Hid (PI v s11 A11 n11 c11 p) → F 8 (Array.setIfInBounds L0 2 true) (Act.put a0 (some 8) (.agg #[.bool s11, .slice A11 n11 c11])) v := by
  intro s11 A11 n11 c11 v HXj HZ2hr11j
  subst hF ha0 hL0
  simp only [PT] at J1_2_5 J1_2_10 ⊢
  have hHeld := HS2.out _ HXj.out
  refine wpAnyH_ready (rs := [5, 10]) (by kernel_rfl) (by simp) ?_
  refine .cons rfl (fun K hK => ?_) ?_
  go_simp
  go_at_call 23
  refine (l4num_any q t0 B0 m0 d0 v (RNo.new HP1w1.out HXj.out) (Nat.le_trans (rlim (RNo.new HP1w1.out HXj.out) HF0.out.2.2) (by decide)) HF0.out.2.2).mono ?_
  rintro e v15 ⟨s12, A12, n12, c12, rfl, hr12, hb⟩
  have HB15 := hJ hb
  have HR15hr12 := hJ hr12
  clear hb hr12
  go_wp2_with fail
  have HX15 := hJ (bt HXj.out HB15.out)
  have HZ15_0 := hJ (PIo.new HZ2hr11j.out HB15.out)
  clear hHeld
  refine hK.out _ _ (HS2.out _ HX15.out) (fun hHeld => ?_)
  clear hK K
  try simp only [PT]
  exact wpAnyH_cast (by kernel_rfl) (J1_2_5 s11 A11 n11 c11 s12 A12 n12 c12 v15 HX15 HZ15_0 HR15hr12)
  refine .cons rfl (fun K hK => ?_) .nil
  go_simp
  have HB16 := hJ ((Below.refl v.heap.size v).alloc (Nat.le_refl _) (.cells #[.bool false, .slice none 0 0, .bool false, .slice none 0 0] 35))
  have HP16 := hJ (BX.lit v 35 #[.bool false, .slice none 0 0, .bool false, .slice none 0 0])
  obtain ⟨v16, hV⟩ := nmz (World.alloc v (.cells #[.bool false, .slice none 0 0, .bool false, .slice none 0 0] 35))
  obtain ⟨g1_10, hg⟩ := nmz (v.heap.size)
  rw [hV] at HB16 HP16 ⊢
  rw [hg] at HP16 ⊢
  have HG16 := hJ (show x1.heap.size ≤ g1_10 by rw [← hg]; exact HXj.out.size)
  clear hV hg
  have HX16 := hJ (bt HXj.out HB16.out)
  have HZ16_0 := hJ (PIo.new HZ2hr11j.out HB16.out)
  clear hHeld
  refine hK.out _ _ (HS2.out _ HX16.out) (fun hHeld => ?_)
  clear hK K
  try simp only [PT]
  exact wpAnyH_cast (by kernel_rfl) (J1_2_10 s11 A11 n11 c11 g1_10 v16 HX16 HZ16_0 HP16 HG16)
 have J1_10 : ∀ (g1_10 : Nat) (v : World), Hid (Below x1.heap.size x1 v) → Hid (BX 35 v g1_10 #[.bool false, .slice none 0 0, .bool false, .slice none 0 0]) → Hid (x1.heap.size ≤ g1_10) → F 8 (Array.setIfInBounds L0 10 true) (Act.put a0 (some 3) (.pointer (some ⟨g1_10, 0, none⟩))) v := by
  intro g1_10 v HXj HPg1_10j HGg1_10j
  subst hF ha0 hL0
  simp only [PT] at J1_2_10 ⊢
  have hHeld := HS2.out _ HXj.out
  refine wpAnyH_ready (rs := [2]) (by kernel_rfl) (by simp) ?_
  refine .cons rfl (fun K hK => ?_) .nil
  go_simp
  go_at_call 23
  refine (l4num_any p s0 A0 n0 c0 v (RNo.new HP0w1.out HXj.out) (Nat.le_trans (rlim (RNo.new HP0w1.out HXj.out) HF0.out.2.1) (by decide)) HF0.out.2.1).mono ?_
  rintro e v17 ⟨s11, A11, n11, c11, rfl, hr11, hb⟩
  have HB17 := hJ hb
  have HR17hr11 := hJ hr11
  clear hb hr11
  go_wp2_with fail
  have HX17 := hJ (bt HXj.out HB17.out)
  have HP17g1_10 := hJ (BX.new HPg1_10j.out HB17.out)
  clear hHeld
  refine hK.out _ _ (HS2.out _ HX17.out) (fun hHeld => ?_)
  clear hK K
  try simp only [PT]
  exact wpAnyH_cast (by kernel_rfl) (J1_2_10 s11 A11 n11 c11 g1_10 v17 HX17 HR17hr11 HP17g1_10 HGg1_10j)
 subst hF ha0 hL0
 simp only [PT] at J1_2 J1_10
 refine wpAnyH_ready (rs := [2, 10]) (by kernel_rfl) (by simp) ?_
 refine .cons rfl (fun K hK => ?_) ?_
 go_simp
 go_at_call 23
 refine (l4num_any p s0 A0 n0 c0 v2 (RNo.new HP0w1.out HX2.out) (Nat.le_trans (rlim (RNo.new HP0w1.out HX2.out) HF0.out.2.1) (by decide)) HF0.out.2.1).mono ?_
 rintro e v18 ⟨s11, A11, n11, c11, rfl, hr11, hb⟩
 have HB18 := hJ hb
 have HR18hr11 := hJ hr11
 clear hb hr11
 go_wp2_with fail
 have HX18 := hJ (bt HX2.out HB18.out)
 clear hHeld
 refine hK.out _ _ (HS2.out _ HX18.out) (fun hHeld => ?_)
 clear hK K
 try simp only [PT]
 exact wpAnyH_cast (by kernel_rfl) (J1_2 s11 A11 n11 c11 v18 HX18 HR18hr11)
 refine .cons rfl (fun K hK => ?_) .nil
 go_simp
 have HB19 := hJ ((Below.refl v2.heap.size v2).alloc (Nat.le_refl _) (.cells #[.bool false, .slice none 0 0, .bool false, .slice none 0 0] 35))
 have HP19 := hJ (BX.lit v2 35 #[.bool false, .slice none 0 0, .bool false, .slice none 0 0])
 obtain ⟨v19, hV⟩ := nmz (World.alloc v2 (.cells #[.bool false, .slice none 0 0, .bool false, .slice none 0 0] 35))
 obtain ⟨g1_10, hg⟩ := nmz (v2.heap.size)
 rw [hV] at HB19 HP19 ⊢
 rw [hg] at HP19 ⊢
 have HG19 := hJ (show x1.heap.size ≤ g1_10 by rw [← hg]; exact HX2.out.size)
 clear hV hg
 have HX19 := hJ (bt HX2.out HB19.out)
 clear hHeld
 refine hK.out _ _ (HS2.out _ HX19.out) (fun hHeld => ?_)
 clear hK K
 try simp only [PT]
 exact wpAnyH_cast (by kernel_rfl) (J1_10 g1_10 v19 HX19 HP19 HG19)
theorem text_eq (p q r s : Int) : (fracT p q == fracT r s) = eqF p q r s := by
 unfold eqF
 by_cases h : p = r ∧ q = s
 ·rw [h.1, h.2, decide_eq_true ⟨rfl, rfl⟩]; simp
 ·rw [decide_eq_false h]
  exact beq_eq_false_iff_ne.2 fun e => h (fracT_eq e)
set_option maxRecDepth 100000 in
set_option maxHeartbeats 1600000 in
theorem l4equal_any (p q r s : Int) (s0 t0 s1 t1 : Bool) (A0 B0 A1 B1 : Option Addr) (n0 c0 m0 d0 n1 c1 m1 d1 : Nat) (w : World) (hx : PF w s0 A0 n0 c0 t0 B0 m0 d0 p q) (hy : PF w s1 A1 n1 c1 t1 B1 m1 d1 r s) (hf : Fr p q) (hg : Fr r s) :
  Calls Tryz.prog 48 #[.agg #[.bool s0, .slice A0 n0 c0, .bool t0, .slice B0 m0 d0], .agg #[.bool s1, .slice A1 n1 c1, .bool t1, .slice B1 m1 d1]] w fun e w' => e = .returned (.bool (eqF p q r s)) ∧ Below w.heap.size w w' := by
 have HP0 := hJ hx
 have HP1 := hJ hy
 have HF0 := hJ hf
 have HF1 := hJ hg
 clear hx hy hf hg
 obtain ⟨X0, hX0⟩ : ∃ l, fracT p q = l := ⟨_, rfl⟩
 obtain ⟨X1, hX1⟩ : ∃ l, fracT r s = l := ⟨_, rfl⟩
 have HDE := hJ (show (X0 == X1) = eqF p q r s by rw [← hX0, ← hX1]; exact text_eq p q r s)
 have HD0 := hJ hX0
 have HD1 := hJ hX1
 clear hX0 hX1
 obtain ⟨x1, hx1⟩ := nmz ((w.alloc (.cells #[.bool s0, .slice A0 n0 c0, .bool t0, .slice B0 m0 d0] 35)).alloc (.cells #[.bool s1, .slice A1 n1 c1, .bool t1, .slice B1 m1 d1] 35))
 have HB1 := hJ (show Below w.heap.size w x1 by rw [← hx1]; exact (((Below.refl _ _).alloc (Nat.le_refl _) _).alloc (by simp only [World.size_alloc]; omega) _))
 have HQ1x0 := hJ (show BX 35 x1 w.heap.size #[.bool s0, .slice A0 n0 c0, .bool t0, .slice B0 m0 d0] by rw [← hx1]; exact ((BX.at rfl).alloc _))
 have HG1x0 := hJ (show w.heap.size ≤ w.heap.size by omega)
 have HL1x0 := hJ (show w.heap.size < x1.heap.size from HQ1x0.out.lt)
 have HQ1x1 := hJ (show BX 35 x1 (w.heap.size + 1) #[.bool s1, .slice A1 n1 c1, .bool t1, .slice B1 m1 d1] by rw [← hx1]; exact (BX.at (by simp only [World.size_alloc])))
 have HG1x1 := hJ (show w.heap.size ≤ w.heap.size + 1 by omega)
 have HL1x1 := hJ (show w.heap.size + 1 < x1.heap.size from HQ1x1.out.lt)
 have HS2 : Hid (∀ w', Below x1.heap.size x1 w' → (fun w' : World => w'.cell? ⟨w.heap.size, 0, none⟩ = some (.bool s0) ∧ w'.cell? ⟨w.heap.size, 1, none⟩ = some (.slice A0 n0 c0) ∧ w'.cell? ⟨w.heap.size, 2, none⟩ = some (.bool t0) ∧ w'.cell? ⟨w.heap.size, 3, none⟩ = some (.slice B0 m0 d0) ∧ w'.cell? ⟨w.heap.size + 1, 0, none⟩ = some (.bool s1) ∧ w'.cell? ⟨w.heap.size + 1, 1, none⟩ = some (.slice A1 n1 c1) ∧ w'.cell? ⟨w.heap.size + 1, 2, none⟩ = some (.bool t1) ∧ w'.cell? ⟨w.heap.size + 1, 3, none⟩ = some (.slice B1 m1 d1) ∧ Below x1.heap.size x1 w') w') := hJ (fun w' hb => ⟨(BX.new HQ1x0.out hb).cell 0 rfl, (BX.new HQ1x0.out hb).cell 1 rfl, (BX.new HQ1x0.out hb).cell 2 rfl, (BX.new HQ1x0.out hb).cell 3 rfl, (BX.new HQ1x1.out hb).cell 0 rfl, (BX.new HQ1x1.out hb).cell 1 rfl, (BX.new HQ1x1.out hb).cell 2 rfl, (BX.new HQ1x1.out hb).cell 3 rfl, hb⟩)
 have HP0w1 := hJ (PF.new HP0.out HB1.out)
 have HP1w1 := hJ (PF.new HP1.out HB1.out)
 go_enter Tryz.func48, Tryz.ntmps48
 go_wp2_with fail
 clear hx1
 obtain ⟨v2, hv2⟩ := nmz (World.drew x1)
 have HX2 := hJ (show Below x1.heap.size x1 v2 by rw [← hv2]; exact (Below.refl _ _).drew)
 refine wp_region_held_drew (S := (fun w' : World => w'.cell? ⟨w.heap.size, 0, none⟩ = some (.bool s0) ∧ w'.cell? ⟨w.heap.size, 1, none⟩ = some (.slice A0 n0 c0) ∧ w'.cell? ⟨w.heap.size, 2, none⟩ = some (.bool t0) ∧ w'.cell? ⟨w.heap.size, 3, none⟩ = some (.slice B0 m0 d0) ∧ w'.cell? ⟨w.heap.size + 1, 0, none⟩ = some (.bool s1) ∧ w'.cell? ⟨w.heap.size + 1, 1, none⟩ = some (.slice A1 n1 c1) ∧ w'.cell? ⟨w.heap.size + 1, 2, none⟩ = some (.bool t1) ∧ w'.cell? ⟨w.heap.size + 1, 3, none⟩ = some (.slice B1 m1 d1) ∧ Below x1.heap.size x1 w')) (by kernel_rfl) ?_ (fun hHeld => ?_)
 ·rw [hv2]
  exact HS2.out _ HX2.out
 rw [hv2] at hHeld ⊢
 clear hv2
 refine tq 0 ?_
 try simp only [PT]
 refine tq 2 ?_
 try simp only [PT]
 refine wpAnyH_ready (rs := [1]) (by kernel_rfl) (by simp) ?_
 refine .cons rfl (fun K hK => ?_) .nil
 go_simp
 go_at_call 54
 refine (fstring_any p q s0 t0 A0 B0 n0 c0 m0 d0 v2 (PF.new HP0w1.out HX2.out) HF0.out.2.1 HF0.out.2.2 HF0.out.1.1).mono ?_
 rw [HD0.out]
 rintro e v3 ⟨rfl, hb⟩
 have HB3 := hJ hb
 clear hb
 go_wp2_with fail
 have HX3 := hJ (bt HX2.out HB3.out)
 clear hHeld
 refine hK.out _ _ (HS2.out _ HX3.out) (fun hHeld => ?_)
 clear hK K
 try simp only [PT]
 refine wpAnyH_ready (rs := [3]) (by kernel_rfl) (by simp) ?_
 refine .cons rfl (fun K hK => ?_) .nil
 go_simp
 go_at_call 54
 refine (fstring_any r s s1 t1 A1 B1 n1 c1 m1 d1 v3 (PF.new HP1w1.out HX3.out) HF1.out.2.1 HF1.out.2.2 HF1.out.1.1).mono ?_
 rw [HD1.out]
 rintro e v4 ⟨rfl, hb⟩
 have HB4 := hJ hb
 clear hb
 go_wp2_with fail
 have HX4 := hJ (bt HX3.out HB4.out)
 clear hHeld
 refine hK.out _ _ (HS2.out _ HX4.out) (fun hHeld => ?_)
 clear hK K
 try simp only [PT]
 refine tk 4 (.bool (eqF p q r s)) ?_ ?_
 ·intro w hSw
  (try dsimp only at hSw)
  go_simp
  rw [HDE.out]
 try simp only [PT]
 refine tq 5 ?_
 try simp only [PT]
 refine wpAnyH_done (by kernel_rfl) ?_ _
 clear hHeld
 have HC0_2 := hJ (bt HB1.out HX4.out)
 go_wp2
 go_ret
 exact ⟨rfl, HC0_2.out⟩
theorem decI_eq (x y : Int) : (decI x == decI y) = decide (x = y) := by
 by_cases h : x = y
 ·rw [h, decide_eq_true rfl]; simp
 ·rw [decide_eq_false h]
  exact beq_eq_false_iff_ne.2 fun e => h (decI_inj e)
set_option maxRecDepth 100000 in
set_option maxHeartbeats 1600000 in
theorem l4same_any (p q r s : Int) (s0 t0 s1 t1 : Bool) (A0 B0 A1 B1 : Option Addr) (n0 c0 m0 d0 n1 c1 m1 d1 : Nat) (w : World) (hx : PF w s0 A0 n0 c0 t0 B0 m0 d0 p q) (hr : RN w s1 A1 n1 c1 r) (hs : RN w t1 B1 m1 d1 s) (hf : Fr p q) (hlr : r.natAbs < lim) (hls : s.natAbs < lim) :
  Calls Tryz.prog 25 #[.agg #[.bool s0, .slice A0 n0 c0, .bool t0, .slice B0 m0 d0], .agg #[.bool s1, .slice A1 n1 c1, .bool t1, .slice B1 m1 d1]] w fun e w' => e = .returned (.bool (eqF p q r s)) ∧ Below w.heap.size w w' := by
 have HP0 := hJ hx
 have HP1 := hJ hr
 have HP2 := hJ hs
 have HF0 := hJ hf
 have HLR := hJ hlr
 have HLS := hJ hls
 clear hx hr hs hf hlr hls
 obtain ⟨X0, hX0⟩ : ∃ l, decI p = l := ⟨_, rfl⟩
 obtain ⟨X1, hX1⟩ : ∃ l, decI r = l := ⟨_, rfl⟩
 obtain ⟨X2, hX2⟩ : ∃ l, decI q = l := ⟨_, rfl⟩
 obtain ⟨X3, hX3⟩ : ∃ l, decI s = l := ⟨_, rfl⟩
 have HN := hJ (show (X0 == X1) = decide (p = r) by rw [← hX0, ← hX1]; exact decI_eq p r)
 have HQ := hJ (show (X2 == X3) = decide (q = s) by rw [← hX2, ← hX3]; exact decI_eq q s)
 have HD0 := hJ hX0
 have HD1 := hJ hX1
 have HD2 := hJ hX2
 have HD3 := hJ hX3
 clear hX0 hX1 hX2 hX3
 by_cases h1 : p = r
 ·have HV := hJ (show eqF p q r s = decide (q = s) by unfold eqF; simp [h1])
  rw [decide_eq_true h1] at HN
  clear h1
  obtain ⟨x1, hx1⟩ := nmz ((w.alloc (.cells #[.bool s0, .slice A0 n0 c0, .bool t0, .slice B0 m0 d0] 35)).alloc (.cells #[.bool s1, .slice A1 n1 c1, .bool t1, .slice B1 m1 d1] 41))
  have HB1 := hJ (show Below w.heap.size w x1 by rw [← hx1]; exact (((Below.refl _ _).alloc (Nat.le_refl _) _).alloc (by simp only [World.size_alloc]; omega) _))
  have HQ1x0 := hJ (show BX 35 x1 w.heap.size #[.bool s0, .slice A0 n0 c0, .bool t0, .slice B0 m0 d0] by rw [← hx1]; exact ((BX.at rfl).alloc _))
  have HG1x0 := hJ (show w.heap.size ≤ w.heap.size by omega)
  have HL1x0 := hJ (show w.heap.size < x1.heap.size from HQ1x0.out.lt)
  have HQ1x1 := hJ (show BX 41 x1 (w.heap.size + 1) #[.bool s1, .slice A1 n1 c1, .bool t1, .slice B1 m1 d1] by rw [← hx1]; exact (BX.at (by simp only [World.size_alloc])))
  have HG1x1 := hJ (show w.heap.size ≤ w.heap.size + 1 by omega)
  have HL1x1 := hJ (show w.heap.size + 1 < x1.heap.size from HQ1x1.out.lt)
  have HS2 : Hid (∀ w', Below x1.heap.size x1 w' → (fun w' : World => w'.cell? ⟨w.heap.size, 0, none⟩ = some (.bool s0) ∧ w'.cell? ⟨w.heap.size, 1, none⟩ = some (.slice A0 n0 c0) ∧ w'.cell? ⟨w.heap.size, 2, none⟩ = some (.bool t0) ∧ w'.cell? ⟨w.heap.size, 3, none⟩ = some (.slice B0 m0 d0) ∧ w'.cell? ⟨w.heap.size + 1, 0, none⟩ = some (.bool s1) ∧ w'.cell? ⟨w.heap.size + 1, 1, none⟩ = some (.slice A1 n1 c1) ∧ w'.cell? ⟨w.heap.size + 1, 2, none⟩ = some (.bool t1) ∧ w'.cell? ⟨w.heap.size + 1, 3, none⟩ = some (.slice B1 m1 d1) ∧ Below x1.heap.size x1 w') w') := hJ (fun w' hb => ⟨(BX.new HQ1x0.out hb).cell 0 rfl, (BX.new HQ1x0.out hb).cell 1 rfl, (BX.new HQ1x0.out hb).cell 2 rfl, (BX.new HQ1x0.out hb).cell 3 rfl, (BX.new HQ1x1.out hb).cell 0 rfl, (BX.new HQ1x1.out hb).cell 1 rfl, (BX.new HQ1x1.out hb).cell 2 rfl, (BX.new HQ1x1.out hb).cell 3 rfl, hb⟩)
  have HP0w1 := hJ (PF.new HP0.out HB1.out)
  have HP1w1 := hJ (RNo.new HP1.out HB1.out)
  have HP2w1 := hJ (RNo.new HP2.out HB1.out)
  go_enter Tryz.func25, Tryz.ntmps25
  go_wp2_with fail
  clear hx1
  obtain ⟨v2, hv2⟩ := nmz (World.drew x1)
  have HX2 := hJ (show Below x1.heap.size x1 v2 by rw [← hv2]; exact (Below.refl _ _).drew)
  refine wp_region_held_drew (S := (fun w' : World => w'.cell? ⟨w.heap.size, 0, none⟩ = some (.bool s0) ∧ w'.cell? ⟨w.heap.size, 1, none⟩ = some (.slice A0 n0 c0) ∧ w'.cell? ⟨w.heap.size, 2, none⟩ = some (.bool t0) ∧ w'.cell? ⟨w.heap.size, 3, none⟩ = some (.slice B0 m0 d0) ∧ w'.cell? ⟨w.heap.size + 1, 0, none⟩ = some (.bool s1) ∧ w'.cell? ⟨w.heap.size + 1, 1, none⟩ = some (.slice A1 n1 c1) ∧ w'.cell? ⟨w.heap.size + 1, 2, none⟩ = some (.bool t1) ∧ w'.cell? ⟨w.heap.size + 1, 3, none⟩ = some (.slice B1 m1 d1) ∧ Below x1.heap.size x1 w')) (by kernel_rfl) ?_ (fun hHeld => ?_)
  ·rw [hv2]
   exact HS2.out _ HX2.out
  rw [hv2] at hHeld ⊢
  clear hv2
  refine tq 0 ?_
  try simp only [PT]
  refine tq 3 ?_
  try simp only [PT]
  refine tq 4 ?_
  try simp only [PT]
  refine wpAnyH_ready (rs := [1]) (by kernel_rfl) (by simp) ?_
  refine .cons rfl (fun K hK => ?_) .nil
  go_simp
  go_at_call 50
  refine (num_any p q s0 t0 A0 B0 n0 c0 m0 d0 v2 (PF.new HP0w1.out HX2.out)).mono ?_
  rintro e v3 ⟨s11, A11, n11, c11, rfl, hr11, hb⟩
  have HB3 := hJ hb
  have HR3hr11 := hJ hr11
  clear hb hr11
  go_wp2_with fail
  have HX3 := hJ (bt HX2.out HB3.out)
  clear hHeld
  refine hK.out _ _ (HS2.out _ HX3.out) (fun hHeld => ?_)
  clear hK K
  try simp only [PT]
  refine wpAnyH_ready (rs := [2]) (by kernel_rfl) (by simp) ?_
  refine .cons rfl (fun K hK => ?_) .nil
  go_simp
  go_at_call 107
  refine (pstring_any p s11 A11 n11 c11 v3 HR3hr11.out (Nat.le_trans (plim HR3hr11.out HF0.out.2.1) (by decide))).mono ?_
  rw [HD0.out]
  rintro e v4 ⟨rfl, hb⟩
  have HB4 := hJ hb
  clear hb
  go_wp2_with fail
  have HX4 := hJ (bt HX3.out HB4.out)
  have HZ4_0 := hJ (PIo.new HR3hr11.out HB4.out)
  clear hHeld
  refine hK.out _ _ (HS2.out _ HX4.out) (fun hHeld => ?_)
  clear hK K
  try simp only [PT]
  refine wpAnyH_ready (rs := [5]) (by kernel_rfl) (by simp) ?_
  refine .cons rfl (fun K hK => ?_) .nil
  go_simp
  go_at_call 104
  refine (text_any r s1 A1 n1 c1 v4 (RNo.new HP1w1.out HX4.out) (Nat.le_trans (rlim (RNo.new HP1w1.out HX4.out) HLR.out) (by decide))).mono ?_
  rw [HD1.out]
  rintro e v5 ⟨rfl, hb⟩
  have HB5 := hJ hb
  clear hb
  go_wp2_with fail
  have HX5 := hJ (bt HX4.out HB5.out)
  have HZ5_0 := hJ (PIo.new HZ4_0.out HB5.out)
  clear hHeld
  refine hK.out _ _ (HS2.out _ HX5.out) (fun hHeld => ?_)
  clear hK K
  try simp only [PT]
  refine tk 6 (.bool true) ?_ ?_
  ·intro w hSw
   (try dsimp only at hSw)
   go_simp
   have hN := HN.out; simpa using hN
  try simp only [PT]
  refine tq 7 ?_
  try simp only [PT]
  refine tq 8 ?_
  try simp only [PT]
  refine tq 11 ?_
  try simp only [PT]
  refine tq 12 ?_
  try simp only [PT]
  refine wpAnyH_ready (rs := [9]) (by kernel_rfl) (by simp) ?_
  refine .cons rfl (fun K hK => ?_) .nil
  go_simp
  go_at_call 51
  refine (den_any p q s0 t0 A0 B0 n0 c0 m0 d0 v5 (PF.new HP0w1.out HX5.out) (Nat.le_trans (plim (PF.new HP0w1.out HX5.out).2 (dn_lim HF0.out.2.2)) (by decide)) HF0.out.1.1).mono ?_
  rintro e v6 ⟨s12, A12, n12, c12, rfl, hr12, hb⟩
  have HB6 := hJ hb
  have HR6hr12 := hJ hr12
  clear hb hr12
  go_wp2_with fail
  have HX6 := hJ (bt HX5.out HB6.out)
  have HZ6_0 := hJ (PIo.new HZ5_0.out HB6.out)
  clear hHeld
  refine hK.out _ _ (HS2.out _ HX6.out) (fun hHeld => ?_)
  clear hK K
  try simp only [PT]
  refine wpAnyH_ready (rs := [10]) (by kernel_rfl) (by simp) ?_
  refine .cons rfl (fun K hK => ?_) .nil
  go_simp
  go_at_call 107
  refine (pstring_any q s12 A12 n12 c12 v6 HR6hr12.out (Nat.le_trans (plim HR6hr12.out HF0.out.2.2) (by decide))).mono ?_
  rw [HD2.out]
  rintro e v7 ⟨rfl, hb⟩
  have HB7 := hJ hb
  clear hb
  go_wp2_with fail
  have HX7 := hJ (bt HX6.out HB7.out)
  have HZ7_0 := hJ (PIo.new HZ6_0.out HB7.out)
  have HZ7_1 := hJ (PIo.new HR6hr12.out HB7.out)
  clear hHeld
  refine hK.out _ _ (HS2.out _ HX7.out) (fun hHeld => ?_)
  clear hK K
  try simp only [PT]
  refine wpAnyH_ready (rs := [13]) (by kernel_rfl) (by simp) ?_
  refine .cons rfl (fun K hK => ?_) .nil
  go_simp
  go_at_call 104
  refine (text_any s t1 B1 m1 d1 v7 (RNo.new HP2w1.out HX7.out) (Nat.le_trans (rlim (RNo.new HP2w1.out HX7.out) HLS.out) (by decide))).mono ?_
  rw [HD3.out]
  rintro e v8 ⟨rfl, hb⟩
  have HB8 := hJ hb
  clear hb
  go_wp2_with fail
  have HX8 := hJ (bt HX7.out HB8.out)
  have HZ8_0 := hJ (PIo.new HZ7_0.out HB8.out)
  have HZ8_1 := hJ (PIo.new HZ7_1.out HB8.out)
  clear hHeld
  refine hK.out _ _ (HS2.out _ HX8.out) (fun hHeld => ?_)
  clear hK K
  try simp only [PT]
  refine tk 14 (.bool (decide (q = s))) ?_ ?_
  ·intro w hSw
   (try dsimp only at hSw)
   go_simp
   rw [HQ.out]
  try simp only [PT]
  refine tq 15 ?_
  try simp only [PT]
  refine tq 16 ?_
  try simp only [PT]
  refine wpAnyH_done (by kernel_rfl) ?_ _
  clear hHeld
  have HC0_2 := hJ (bt HB1.out HX8.out)
  go_wp2
  go_ret
  exact ⟨by rw [HV.out]; rfl, HC0_2.out⟩
 ·have HV := hJ (show eqF p q r s = false by unfold eqF; simp [h1])
  rw [decide_eq_false h1] at HN
  clear h1
  obtain ⟨x9, hx9⟩ := nmz ((w.alloc (.cells #[.bool s0, .slice A0 n0 c0, .bool t0, .slice B0 m0 d0] 35)).alloc (.cells #[.bool s1, .slice A1 n1 c1, .bool t1, .slice B1 m1 d1] 41))
  have HB9 := hJ (show Below w.heap.size w x9 by rw [← hx9]; exact (((Below.refl _ _).alloc (Nat.le_refl _) _).alloc (by simp only [World.size_alloc]; omega) _))
  have HQ9x0 := hJ (show BX 35 x9 w.heap.size #[.bool s0, .slice A0 n0 c0, .bool t0, .slice B0 m0 d0] by rw [← hx9]; exact ((BX.at rfl).alloc _))
  have HG9x0 := hJ (show w.heap.size ≤ w.heap.size by omega)
  have HL9x0 := hJ (show w.heap.size < x9.heap.size from HQ9x0.out.lt)
  have HQ9x1 := hJ (show BX 41 x9 (w.heap.size + 1) #[.bool s1, .slice A1 n1 c1, .bool t1, .slice B1 m1 d1] by rw [← hx9]; exact (BX.at (by simp only [World.size_alloc])))
  have HG9x1 := hJ (show w.heap.size ≤ w.heap.size + 1 by omega)
  have HL9x1 := hJ (show w.heap.size + 1 < x9.heap.size from HQ9x1.out.lt)
  have HS10 : Hid (∀ w', Below x9.heap.size x9 w' → (fun w' : World => w'.cell? ⟨w.heap.size, 0, none⟩ = some (.bool s0) ∧ w'.cell? ⟨w.heap.size, 1, none⟩ = some (.slice A0 n0 c0) ∧ w'.cell? ⟨w.heap.size, 2, none⟩ = some (.bool t0) ∧ w'.cell? ⟨w.heap.size, 3, none⟩ = some (.slice B0 m0 d0) ∧ w'.cell? ⟨w.heap.size + 1, 0, none⟩ = some (.bool s1) ∧ w'.cell? ⟨w.heap.size + 1, 1, none⟩ = some (.slice A1 n1 c1) ∧ Below x9.heap.size x9 w') w') := hJ (fun w' hb => ⟨(BX.new HQ9x0.out hb).cell 0 rfl, (BX.new HQ9x0.out hb).cell 1 rfl, (BX.new HQ9x0.out hb).cell 2 rfl, (BX.new HQ9x0.out hb).cell 3 rfl, (BX.new HQ9x1.out hb).cell 0 rfl, (BX.new HQ9x1.out hb).cell 1 rfl, hb⟩)
  have HP0w1 := hJ (PF.new HP0.out HB9.out)
  have HP1w1 := hJ (RNo.new HP1.out HB9.out)
  go_enter Tryz.func25, Tryz.ntmps25
  go_wp2_with fail
  clear hx9
  obtain ⟨v10, hv10⟩ := nmz (World.drew x9)
  have HX10 := hJ (show Below x9.heap.size x9 v10 by rw [← hv10]; exact (Below.refl _ _).drew)
  refine wp_region_held_drew (S := (fun w' : World => w'.cell? ⟨w.heap.size, 0, none⟩ = some (.bool s0) ∧ w'.cell? ⟨w.heap.size, 1, none⟩ = some (.slice A0 n0 c0) ∧ w'.cell? ⟨w.heap.size, 2, none⟩ = some (.bool t0) ∧ w'.cell? ⟨w.heap.size, 3, none⟩ = some (.slice B0 m0 d0) ∧ w'.cell? ⟨w.heap.size + 1, 0, none⟩ = some (.bool s1) ∧ w'.cell? ⟨w.heap.size + 1, 1, none⟩ = some (.slice A1 n1 c1) ∧ Below x9.heap.size x9 w')) (by kernel_rfl) ?_ (fun hHeld => ?_)
  ·rw [hv10]
   exact HS10.out _ HX10.out
  rw [hv10] at hHeld ⊢
  clear hv10
  refine tq 0 ?_
  try simp only [PT]
  refine tq 3 ?_
  try simp only [PT]
  refine tq 4 ?_
  try simp only [PT]
  refine wpAnyH_ready (rs := [1]) (by kernel_rfl) (by simp) ?_
  refine .cons rfl (fun K hK => ?_) .nil
  go_simp
  go_at_call 50
  refine (num_any p q s0 t0 A0 B0 n0 c0 m0 d0 v10 (PF.new HP0w1.out HX10.out)).mono ?_
  rintro e v11 ⟨s13, A13, n13, c13, rfl, hr13, hb⟩
  have HB11 := hJ hb
  have HR11hr13 := hJ hr13
  clear hb hr13
  go_wp2_with fail
  have HX11 := hJ (bt HX10.out HB11.out)
  clear hHeld
  refine hK.out _ _ (HS10.out _ HX11.out) (fun hHeld => ?_)
  clear hK K
  try simp only [PT]
  refine wpAnyH_ready (rs := [2]) (by kernel_rfl) (by simp) ?_
  refine .cons rfl (fun K hK => ?_) .nil
  go_simp
  go_at_call 107
  refine (pstring_any p s13 A13 n13 c13 v11 HR11hr13.out (Nat.le_trans (plim HR11hr13.out HF0.out.2.1) (by decide))).mono ?_
  rw [HD0.out]
  rintro e v12 ⟨rfl, hb⟩
  have HB12 := hJ hb
  clear hb
  go_wp2_with fail
  have HX12 := hJ (bt HX11.out HB12.out)
  have HZ12_0 := hJ (PIo.new HR11hr13.out HB12.out)
  clear hHeld
  refine hK.out _ _ (HS10.out _ HX12.out) (fun hHeld => ?_)
  clear hK K
  try simp only [PT]
  refine wpAnyH_ready (rs := [5]) (by kernel_rfl) (by simp) ?_
  refine .cons rfl (fun K hK => ?_) .nil
  go_simp
  go_at_call 104
  refine (text_any r s1 A1 n1 c1 v12 (RNo.new HP1w1.out HX12.out) (Nat.le_trans (rlim (RNo.new HP1w1.out HX12.out) HLR.out) (by decide))).mono ?_
  rw [HD1.out]
  rintro e v13 ⟨rfl, hb⟩
  have HB13 := hJ hb
  clear hb
  go_wp2_with fail
  have HX13 := hJ (bt HX12.out HB13.out)
  have HZ13_0 := hJ (PIo.new HZ12_0.out HB13.out)
  clear hHeld
  refine hK.out _ _ (HS10.out _ HX13.out) (fun hHeld => ?_)
  clear hK K
  try simp only [PT]
  refine tk 6 (.bool false) ?_ ?_
  ·intro w hSw
   (try dsimp only at hSw)
   go_simp
   have hN := HN.out; simpa using hN
  try simp only [PT]
  refine tq 7 ?_
  try simp only [PT]
  refine wpAnyH_take (i := 8) (v := undef) rfl (by kernel_rfl) (by kernel_rfl) (by kernel_rfl) (fun _ _ _ h => h) (Or.inr ⟨by kernel_rfl, rfl⟩) (by assumption) ?_
  try simp only [PT]
  refine wpAnyH_take (i := 9) (v := undef) rfl (by kernel_rfl) (by kernel_rfl) (by kernel_rfl) (fun _ _ _ h => h) (Or.inr ⟨by kernel_rfl, rfl⟩) (by assumption) ?_
  try simp only [PT]
  refine wpAnyH_take (i := 10) (v := undef) rfl (by kernel_rfl) (by kernel_rfl) (by kernel_rfl) (fun _ _ _ h => h) (Or.inr ⟨by kernel_rfl, rfl⟩) (by assumption) ?_
  try simp only [PT]
  refine wpAnyH_take (i := 11) (v := undef) rfl (by kernel_rfl) (by kernel_rfl) (by kernel_rfl) (fun _ _ _ h => h) (Or.inr ⟨by kernel_rfl, rfl⟩) (by assumption) ?_
  try simp only [PT]
  refine wpAnyH_take (i := 12) (v := undef) rfl (by kernel_rfl) (by kernel_rfl) (by kernel_rfl) (fun _ _ _ h => h) (Or.inr ⟨by kernel_rfl, rfl⟩) (by assumption) ?_
  try simp only [PT]
  refine wpAnyH_take (i := 13) (v := undef) rfl (by kernel_rfl) (by kernel_rfl) (by kernel_rfl) (fun _ _ _ h => h) (Or.inr ⟨by kernel_rfl, rfl⟩) (by assumption) ?_
  try simp only [PT]
  refine wpAnyH_take (i := 14) (v := undef) rfl (by kernel_rfl) (by kernel_rfl) (by kernel_rfl) (fun _ _ _ h => h) (Or.inr ⟨by kernel_rfl, rfl⟩) (by assumption) ?_
  try simp only [PT]
  refine tq 15 ?_
  try simp only [PT]
  refine tq 16 ?_
  try simp only [PT]
  refine wpAnyH_done (by kernel_rfl) ?_ _
  clear hHeld
  have HC0_2 := hJ (bt HB9.out HX13.out)
  go_wp2
  go_ret
  exact ⟨by rw [HV.out]; rfl, HC0_2.out⟩
end Go.Proofs.YtbhnaffbgggabaaGreat
