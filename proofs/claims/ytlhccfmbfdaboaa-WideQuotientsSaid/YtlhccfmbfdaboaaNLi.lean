/- The walk of WideQuotients: the law returns true for every input; what lay lies as it lay. -/
import Derived.Test.YtlhccfmbfdaboaaNLg
import Derived.Test.YtlhccfmbfdaboaaB6
namespace Go.Proofs.Ytlhccfmbfdaboaa
open Go.RowKit
attribute [local go_sem ↓] Go.wp_at_zero Go.wp_at_succ
theorem rn_zero {w : World} {s : Bool} {A : Option Addr} {n c : Nat} {x : Int} (h : RN w s A n c x) (hx : x = 0) : n = 0 := by
  have := h.2.1
  rw [hx, Int.natAbs_zero, digs_zero] at this
  exact this.symm
theorem rn_pos {w : World} {s : Bool} {A : Option Addr} {n c : Nat} {x : Int} (h : RN w s A n c x) (hx : x ≠ 0) : 0 < n := by
  rcases Nat.eq_zero_or_pos n with e | e
  · exfalso
    have h2 := h.2.1
    rw [e] at h2
    have := (digs_nil (B := 10000) (by decide)).1 (List.eq_nil_of_length_eq_zero h2)
    omega
  · exact e
theorem small_p {w : World} {s : Bool} {A : Option Addr} {n c : Nat} (h : PI w s A n c 0) : n ≤ 730 := by
  have := h.2.1
  rw [Int.natAbs_zero, digs_zero] at this
  rw [← this]
  exact Nat.zero_le _
theorem P2.lit' {t : TypeId} {w : World} {b : Nat} {v0 v1 : Value} (h : b = w.heap.size) : P2 t (w.alloc (.cells #[v0, v1] t)) b v0 v1 := by subst h; exact P2.lit _ _ _ _
theorem RNo.boxN {ok : Nat → Prop} {w : World} {s : Bool} {A : Option Addr} {n c : Nat} {x : Int} {t : TypeId} {B : Nat} {b0 : Bool} {A0 : Option Addr} {n0 c0 : Nat} (h : RNo ok w s A n c x) (hp : P2 t w B (.bool b0) (.slice A0 n0 c0)) (u0 u1 : Value) : RNo ok ((w.setCell ⟨B, 0, none⟩ u0).setCell ⟨B, 1, none⟩ u1) s A n c x := h.box hp rfl rfl u0 u1
set_option maxRecDepth 100000 in
set_option maxHeartbeats 6400000 in
theorem wideQuotients_walk (xs : List Int) (A : Option Addr) (ln c : Nat) (m0 : Int) (w : World) (hg : Got w (.slice A ln c) xs) (hnw : (Lit.int .i64 m0).wf = true) :
    Calls Try.prog 3 #[.slice A ln c, .int .i64 m0] w fun e w' => e = .returned (.bool true) ∧ Below w.heap.size w w' := by
  have HG := Lib.hid hg
  clear hg
  obtain ⟨hn1, hn2⟩ : -9223372036854775808 ≤ m0 ∧ m0 ≤ 9223372036854775807 := by simpa [Lit.wf, IntKind.min, IntKind.max, IntKind.signed, IntKind.bits] using hnw
  have HNW := Lib.hid hnw
  have HNB := Lib.hid (show m0.natAbs < B2 64 by have : B2 64 = 18446744073709551616 := rfl; omega)
  clear hnw
  go_enter Try.func3, Try.ntmps3
  go_wp2_with fail
  refine (number_any (.slice A ln c) xs 0 w HG.out (by decide)).mono ?_
  rintro e w1 ⟨x, s1, A1, n1, c1, rfl, hr1, hx1, hb1⟩
  obtain ⟨x1, hy1⟩ : ∃ z, w1.alloc (.cells #[.bool s1, .slice A1 n1 c1] 24) = z := ⟨_, rfl⟩
  have HB1 := Lib.hid (show Below w.heap.size w x1 by rw [← hy1]; exact hb1.alloc hb1.size _)
  have HQ1 := Lib.hid (show P2 24 x1 w1.heap.size (.bool s1) (.slice A1 n1 c1) by rw [← hy1]; exact P2.lit _ _ _ _)
  have HR1 := Lib.hid (show RN x1 s1 A1 n1 c1 x by rw [← hy1]; exact hr1.new ((Below.refl _ _).alloc (Nat.le_refl _) _))
  have HXx := Lib.hid (numB2 hx1)
  have hl1 : n1 ≤ 240 := B2.rlen hr1 (numB2 hx1)
  obtain ⟨b1, hb1e⟩ : ∃ b, w1.heap.size = b := ⟨_, rfl⟩
  rw [hb1e] at HQ1
  clear hr1 hb1 hx1
  go_wp2_with fail
  clear hy1 hb1e
  refine (number_any (.slice A ln c) xs 6 x1 (HG.out.new HB1.out) (by decide)).mono ?_
  rintro e w2 ⟨y, s2, A2, n2, c2, rfl, hr2, hx2, hb2⟩
  obtain ⟨x2, hy2⟩ : ∃ z, w2.alloc (.cells #[.bool s2, .slice A2 n2 c2] 24) = z := ⟨_, rfl⟩
  have HB2 := Lib.hid (show Below x1.heap.size x1 x2 by rw [← hy2]; exact hb2.alloc hb2.size _)
  have HQ2 := Lib.hid (show P2 24 x2 w2.heap.size (.bool s2) (.slice A2 n2 c2) by rw [← hy2]; exact P2.lit _ _ _ _)
  have HR2 := Lib.hid (show RN x2 s2 A2 n2 c2 y by rw [← hy2]; exact hr2.new ((Below.refl _ _).alloc (Nat.le_refl _) _))
  have HXy := Lib.hid (numB2 hx2)
  have hl2 : n2 ≤ 240 := B2.rlen hr2 (numB2 hx2)
  obtain ⟨b2, hb2e⟩ : ∃ b, w2.heap.size = b := ⟨_, rfl⟩
  rw [hb2e] at HQ2
  clear hr2 hb2 hx2
  have HQ12 := Lib.hid (HQ1.out.new HB2.out)
  have HR12 := Lib.hid (HR1.out.new HB2.out)
  have HW2 := Lib.hid (bt HB1.out HB2.out)
  clear HQ1 HR1 HB1
  let S := fun w' : World => w'.cell? ⟨b1, 0, none⟩ = some (.bool s1) ∧ w'.cell? ⟨b1, 1, none⟩ = some (.slice A1 n1 c1) ∧ w'.cell? ⟨b2, 0, none⟩ = some (.bool s2) ∧ w'.cell? ⟨b2, 1, none⟩ = some (.slice A2 n2 c2) ∧ Below x2.heap.size x2 w'
  have HS : Hid (∀ w', Below x2.heap.size x2 w' → S w') := Lib.hid (fun w' hb => ⟨(HQ12.out.new hb).cells.1, (HQ12.out.new hb).cells.2, (HQ2.out.new hb).cells.1, (HQ2.out.new hb).cells.2, hb⟩)
  have HSA : Hid (∀ w' o, S w' → S (World.alloc w' o)) := Lib.hid (fun w' o h => HS.out _ (h.2.2.2.2.alloc h.2.2.2.2.size o))
  have K1 : Hid (∀ w', S w' → Calls Try.prog 13 #[.agg #[.bool s1, .slice A1 n1 c1], .agg #[.bool s2, .slice A2 n2 c2]] w' fun e w'' => (∃ s A n c, e = .returned (.agg #[.bool s, .slice A n c]) ∧ Hid (RN w'' s A n c (x * y))) ∧ Below w'.heap.size w' w'' ∧ S w'') :=
    Lib.hid (fun w' h => (mul_any x y s1 s2 A1 A2 n1 c1 n2 c2 w' (HR12.out.new h.2.2.2.2) (HR2.out.new h.2.2.2.2) (by omega) (by omega)).mono (fun e w'' ⟨s, A, n, c, he, hr, hb⟩ => ⟨⟨s, A, n, c, he, Lib.hid hr⟩, hb, HS.out _ (bt h.2.2.2.2 hb)⟩))
  have K2 : Hid (∀ w', S w' → Calls Try.prog 14 #[.int .i64 m0] w' fun e w'' => (∃ s A n c, e = .returned (.agg #[.bool s, .slice A n c]) ∧ Hid (RN w'' s A n c (m0))) ∧ Below w'.heap.size w' w'' ∧ S w'') :=
    Lib.hid (fun w' h => (of_any m0 w' HNW.out).mono (fun e w'' ⟨s, A, n, c, he, hr, hb⟩ => ⟨⟨s, A, n, c, he, Lib.hid hr⟩, hb, HS.out _ (bt h.2.2.2.2 hb)⟩))
  have K3 : Hid (∀ w' s A n3 c s' A' n' c', S w' → Hid (RN w' s A n3 c (x * y)) → Hid (RN w' s' A' n' c' m0) → Calls Try.prog 12 #[.agg #[.bool s, .slice A n3 c], .agg #[.bool s', .slice A' n' c']] w' fun e w'' => (∃ s A n c, e = .returned (.agg #[.bool s, .slice A n c]) ∧ Hid (RN w'' s A n c (x * y + m0))) ∧ Below w'.heap.size w' w'' ∧ S w'') :=
    Lib.hid (fun w' s A n3 c s' A' n' c' h hp hq => (add_any (x * y) m0 s s' A A' n3 c n' c' w' hp.out hq.out (by have := B2.rlen hp.out (B2.mul HXx.out HXy.out); omega) (by have := B2.rlen hq.out HNB.out; omega)).mono (fun e w'' ⟨s, A, n, c, he, hr, hb⟩ => ⟨⟨s, A, n, c, he, Lib.hid hr⟩, hb, HS.out _ (bt h.2.2.2.2 hb)⟩))
  have K4 : Hid (∀ w', S w' → Calls Try.prog 13 #[.agg #[.bool s2, .slice A2 n2 c2], .agg #[.bool s2, .slice A2 n2 c2]] w' fun e w'' => (∃ s A n c, e = .returned (.agg #[.bool s, .slice A n c]) ∧ Hid (RN w'' s A n c (y * y))) ∧ Below w'.heap.size w' w'' ∧ S w'') :=
    Lib.hid (fun w' h => (mul_any y y s2 s2 A2 A2 n2 c2 n2 c2 w' (HR2.out.new h.2.2.2.2) (HR2.out.new h.2.2.2.2) (by omega) (by omega)).mono (fun e w'' ⟨s, A, n, c, he, hr, hb⟩ => ⟨⟨s, A, n, c, he, Lib.hid hr⟩, hb, HS.out _ (bt h.2.2.2.2 hb)⟩))
  have K5 : Hid (∀ w' s A n3 c, S w' → Hid (RN w' s A n3 c (y * y)) → Calls Try.prog 13 #[.agg #[.bool s, .slice A n3 c], .agg #[.bool s1, .slice A1 n1 c1]] w' fun e w'' => (∃ s A n c, e = .returned (.agg #[.bool s, .slice A n c]) ∧ Hid (RN w'' s A n c (y * y * x))) ∧ Below w'.heap.size w' w'' ∧ S w'') :=
    Lib.hid (fun w' s A n3 c h hp => (mul_any (y * y) x s s1 A A1 n3 c n1 c1 w' hp.out (HR12.out.new h.2.2.2.2) (by have := B2.rlen hp.out (B2.mul HXy.out HXy.out); omega) (by omega)).mono (fun e w'' ⟨s, A, n, c, he, hr, hb⟩ => ⟨⟨s, A, n, c, he, Lib.hid hr⟩, hb, HS.out _ (bt h.2.2.2.2 hb)⟩))
  have bR := HS.out _ (Below.refl x2.heap.size x2).drew
  go_upto_region 3 with fail
  clear hy2 hb2e
  go_cut [7] (fun v wx => ∃ (B : Nat), v = .slice (some ⟨B, 0, none⟩) 3 3 ∧ Elems wx B 3 730 ∧ Below x2.heap.size x2 wx)
  case first =>
    go_region_held3 (fun w' => w'.cell? ⟨b1, 0, none⟩ = some (.bool s1) ∧ w'.cell? ⟨b1, 1, none⟩ = some (.slice A1 n1 c1) ∧ w'.cell? ⟨b2, 0, none⟩ = some (.bool s2) ∧ w'.cell? ⟨b2, 1, none⟩ = some (.slice A2 n2 c2) ∧ Below x2.heap.size x2 w') (first | assumption | exact bR | exact HSA.out _ _ (by assumption) | go_keep)
      (first | (go_at_call_of 13 (#[Value.agg #[.bool s1, .slice A1 n1 c1], .agg #[.bool s2, .slice A2 n2 c2]]); refine (K1.out _ ?_).mono ?_; assumption; rintro e w5 ⟨⟨s5, A5, n5, c5, rfl, hr5⟩, hk5, hc5⟩) | (go_at_call 14; refine (K2.out _ ?_).mono ?_; assumption; rintro e w6 ⟨⟨s6, A6, n6, c6, rfl, hr6⟩, hk6, hc6⟩) | (go_at_call 12; refine (K3.out _ s5 A5 n5 c5 s6 A6 n6 c6 ?_ (Lib.hid (hr5.out.new hk6)) hr6).mono ?_; assumption; rintro e w7 ⟨⟨s7, A7, n7, c7, rfl, hr7⟩, hk7, hc7⟩) | (go_at_call_of 13 (#[Value.agg #[.bool s2, .slice A2 n2 c2], .agg #[.bool s2, .slice A2 n2 c2]]); refine (K4.out _ ?_).mono ?_; assumption; rintro e w8 ⟨⟨s8, A8, n8, c8, rfl, hr8⟩, hk8, hc8⟩) | (go_at_call_of 13 (Value.agg #[.bool s8, .slice A8 n8 c8]); refine (K5.out _ s8 A8 n8 c8 ?_ hr8).mono ?_; assumption; rintro e w9 ⟨⟨s9, A9, n9, c9, rfl, hr9⟩, hk9, hc9⟩))
    all_goals
      rename_i hlast
      have HLB := Lib.hid hlast.2.2.2.2
      have HE := Lib.hid (elems_lit3 (t := 24) (m := 730) (HR12.out.new (bt (Below.refl x2.heap.size x2).drew (bt hk5 (bt hk6 (bt hk7 (bt hk8 hk9)))))) (B2.le HXx.out (by decide)) (hr7.out.new (bt hk8 hk9)) (B2.le (B2.add (B2.mul HXx.out HXy.out) (B2.le HNB.out (by decide))) (by decide)) hr9.out (B2.le (B2.mul (B2.mul HXy.out HXy.out) HXx.out) (by decide)))
      clear hlast
      go_wp2_with fail
      go_meet
      exact ⟨w9.heap.size, rfl, HE.out, HLB.out⟩
  case rest =>
    obtain ⟨B, rfl, hel, hb2⟩ := hcut
    have HE := Lib.hid hel
    have HB3 := Lib.hid hb2
    obtain ⟨x3, rfl⟩ := nm_world HB3.out
    have HQ3 := Lib.hid (HQ2.out.new HB3.out)
    have HR3 := Lib.hid (HR2.out.new HB3.out)
    have HW3 := Lib.hid (bt HW2.out HB3.out)
    obtain ⟨a0, a1⟩ := HQ3.out.cells
    clear hel hb2 HQ12 HR12 HQ2 HR2 K1 K2 K3 K4 K5 HS HSA bR HB2
    clear S
    go_wp2_with fail
    refine (wider_any y s2 A2 n2 c2 x3 HR3.out (by omega) (B2.lim HXy.out (by decide))).mono ?_
    rintro e w4 ⟨s4, A4, n4, c4, rfl, hr4, hb4⟩
    obtain ⟨x4, hx4⟩ : ∃ z, w4.alloc (.cells #[.bool s4, .slice A4 n4 c4] 31) = z := ⟨_, rfl⟩
    have HB4 := Lib.hid (show Below x3.heap.size x3 x4 by rw [← hx4]; exact hb4.alloc hb4.size _)
    have HQ4 := Lib.hid (show P2 31 x4 w4.heap.size (.bool s4) (.slice A4 n4 c4) by rw [← hx4]; exact P2.lit _ _ _ _)
    have HR4 := Lib.hid (show PI x4 s4 A4 n4 c4 y by rw [← hx4]; exact PIo.new hr4 ((Below.refl _ _).alloc (Nat.le_refl _) _))
    have hl4 : n4 ≤ 240 := B2.plen hr4 HXy.out
    have HN4 := Lib.hid (HQ3.out.new HB4.out)
    have HM4 := Lib.hid (HR3.out.new HB4.out)
    have HE4 := Lib.hid (HE.out.new HB4.out)
    have HW4 := Lib.hid (bt HW3.out HB4.out)
    obtain ⟨b4, hb4e⟩ : ∃ b, w4.heap.size = b := ⟨_, rfl⟩
    rw [hb4e] at HQ4
    clear hr4 hb4 a0 a1 HQ3 HR3 HE HW3 HB3 HB4
    go_wp2_with fail
    clear hx4 hb4e
    go_loopg [10] 3 (fun g v wr => ∃ i : Nat, i + g = 3 ∧ v = .int .i64 (i : Int) ∧ P2 24 wr b2 (.bool s2) (.slice A2 n2 c2) ∧ RN wr s2 A2 n2 c2 y ∧ P2 31 wr b4 (.bool s4) (.slice A4 n4 c4) ∧ PI wr s4 A4 n4 c4 y ∧ Elems wr B 3 730 ∧ Below w.heap.size w wr)
    case atStart => exact ⟨0, rfl, rfl, HN4.out, HM4.out, HQ4.out, HR4.out, HE4.out, HW4.out⟩
    case round =>
      obtain ⟨i, hi, rfl, hq2, hr2, hq4, hr4, hel, hbel⟩ := hrel
      have HQ2 := Lib.hid hq2
      have HR2 := Lib.hid hr2
      have HQ4 := Lib.hid hq4
      have HR4 := Lib.hid hr4
      have HE := Lib.hid hel
      have HBB := Lib.hid hbel
      clear hq2 hr2 hq4 hr4 hel hbel HN4 HM4 HE4 HW4
      by_cases hlt : i < 3
      · obtain ⟨z, s5, A5, n5, c5, e0, e1, hr5, hz⟩ := HE.out i hlt
        have HR5 := Lib.hid hr5
        have HZ := Lib.hid hz
        have hl5 : n5 ≤ 730 := B2.rlen hr5 hz
        have HE0 := Lib.hid e0
        have HE1 := Lib.hid e1
        have h0i : (0 : Int) ≤ (i : Int) := by omega
        have hi3 : (i : Int) < 3 := by omega
        clear hr5 hz
        go_wp2_with fail
        refine (wider_any z s5 A5 n5 c5 wr HR5.out (by omega) (B2.lim HZ.out (by decide))).mono ?_
        rintro e w6 ⟨s6, A6, n6, c6, rfl, hr6, hb6⟩
        obtain ⟨x6, hx6⟩ : ∃ z, w6.alloc (.cells #[.bool s6, .slice A6 n6 c6] 31) = z := ⟨_, rfl⟩
        have HB6 := Lib.hid (show Below wr.heap.size wr x6 by rw [← hx6]; exact hb6.alloc hb6.size _)
        have HQ6 := Lib.hid (show P2 31 x6 w6.heap.size (.bool s6) (.slice A6 n6 c6) by rw [← hx6]; exact P2.lit _ _ _ _)
        have HR6 := Lib.hid (show PI x6 s6 A6 n6 c6 z by rw [← hx6]; exact PIo.new hr6 ((Below.refl _ _).alloc (Nat.le_refl _) _))
        have hl6 : n6 ≤ 730 := B2.plen hr6 HZ.out
        have HQ26 := Lib.hid (HQ2.out.new HB6.out)
        have HR26 := Lib.hid (HR2.out.new HB6.out)
        have HQ46 := Lib.hid (HQ4.out.new HB6.out)
        have HR46 := Lib.hid (PIo.new HR4.out HB6.out)
        have HR56 := Lib.hid (HR5.out.new HB6.out)
        have HE6 := Lib.hid (HE.out.new HB6.out)
        have HB06 := Lib.hid (bt HBB.out HB6.out)
        have HE06 := Lib.hid ((HB6.out.cell (World.block_lt_of_cell? wr _ HE0.out)).trans HE0.out)
        have HE16 := Lib.hid ((HB6.out.cell (World.block_lt_of_cell? wr _ HE1.out)).trans HE1.out)
        obtain ⟨p0, p1⟩ := HQ6.out.cells
        obtain ⟨q0, q1⟩ := HQ46.out.cells
        clear hr6 hb6 e0 e1 HQ2 HR2 HQ4 HR4 HR5 HE HBB HE0 HE1
        by_cases hy0 : y = 0
        · have HY0 := Lib.hid hy0
          have hn20 : n2 = 0 := rn_zero HR26.out hy0
          clear hy0
          subst hn20
          go_wp2_with fail
          refine (pdiv_zero s6 s4 A6 A4 n6 c6 n4 c4 x6 (PIo.eq HR46.out HY0.out) (by omega)).mono ?_
          rintro e w7 ⟨s7, A7, n7, c7, s7r, A7r, n7r, c7r, rfl, hr7, hr7r, hb7⟩
          obtain ⟨x7, hy7⟩ : ∃ x, W2 31 w7 (.bool s7) (.slice A7 n7 c7) (.bool s7r) (.slice A7r n7r c7r) = x := ⟨_, rfl⟩
          have hx7 : (w7.alloc (.cells #[.bool s7, .slice A7 n7 c7] 31)).alloc (.cells #[.bool s7r, .slice A7r n7r c7r] 31) = x7 := hy7
          have HB7 := Lib.hid (show Below x6.heap.size x6 x7 by rw [← hy7]; exact bt hb7 (W2_k _ _ _ _ _ _))
          have HQ7 := Lib.hid (show P2 31 x7 w7.heap.size (.bool s7) (.slice A7 n7 c7) by rw [← hy7]; exact W2_a _ _ _ _ _ _)
          have HQ7r := Lib.hid (show P2 31 x7 (w7.heap.size + 1) (.bool s7r) (.slice A7r n7r c7r) by rw [← hy7]; exact W2_z _ _ _ _ _ _)
          have HR7 := Lib.hid (show PI x7 s7 A7 n7 c7 0 by rw [← hy7]; exact PIo.new hr7 (W2_k _ _ _ _ _ _))
          have HR7r := Lib.hid (show PI x7 s7r A7r n7r c7r 0 by rw [← hy7]; exact PIo.new hr7r (W2_k _ _ _ _ _ _))
          have hl7 : n7 ≤ 730 := small_p hr7
          have hl7r : n7r ≤ 730 := small_p hr7r
          obtain ⟨p0', p1'⟩ := HQ7.out.cells
          clear hr7 hr7r hb7 hy7 p0 p1 q0 q1 hx6
          obtain ⟨r0, r1⟩ := (HQ26.out.new HB7.out).cells
          go_wp2_with fail
          refine (equal_any 0 0 s7 false A7 none n7 c7 0 0 x7 HR7.out (RN.zero x7) (by omega) (by omega)).mono ?_
          rw [eqB_self]
          rintro e w8 ⟨rfl, hb8⟩
          have HB8 := Lib.hid (bt HB7.out hb8)
          obtain ⟨t0, t1⟩ := (HQ7r.out.new hb8).cells
          have HR8r := Lib.hid (PIo.new HR7r.out hb8)
          clear hb8 r0 r1 hx7
          go_wp2_with fail
          refine (equal_any 0 0 s7r false A7r none n7r c7r 0 0 w8 HR8r.out (RN.zero w8) (by omega) (by omega)).mono ?_
          rw [eqB_self]
          rintro e w9 ⟨rfl, hb9⟩
          have HB9 := Lib.hid (bt HB8.out hb9)
          clear hb9 t0 t1
          go_wp2
          go_roundg (gk - 1)
          case measure => omega
          case rel => exact ⟨i + 1, by omega, by go_num, HQ26.out.new HB9.out, HR26.out.new HB9.out, HQ46.out.new HB9.out, PIo.new HR46.out HB9.out, HE6.out.new HB9.out, bt HB06.out HB9.out⟩
        · have HY0 := Lib.hid hy0
          have hn20 : 0 < n2 := rn_pos HR26.out hy0
          have hn20' : ¬ ((n2 : Int) = 0) := by omega
          clear hy0
          go_wp2_with fail
          refine (pdiv_any z y s6 s4 A6 A4 n6 c6 n4 c4 x6 HR6.out HR46.out (by omega) (by omega) HY0.out).mono ?_
          obtain ⟨Q, hQ⟩ : ∃ Q, z / y = Q := ⟨_, rfl⟩
          obtain ⟨R, hR⟩ : ∃ Q, z % y = Q := ⟨_, rfl⟩
          have HQB := Lib.hid (show Q.natAbs < B2 730 by rw [← hQ]; exact B2.div HZ.out)
          have HRB := Lib.hid (show R.natAbs < B2 730 by rw [← hR]; exact B2.le (B2.mod HY0.out HXy.out) (by decide))
          have HQE := Lib.hid hQ
          have HRE := Lib.hid hR
          rw [hQ, hR]
          clear hQ hR
          rintro e w7 ⟨s7, A7, n7, c7, s7r, A7r, n7r, c7r, rfl, hr7, hr7r, hb7⟩
          obtain ⟨x7, hy7⟩ : ∃ x, W2 31 w7 (.bool s7) (.slice A7 n7 c7) (.bool s7r) (.slice A7r n7r c7r) = x := ⟨_, rfl⟩
          have hx7 : (w7.alloc (.cells #[.bool s7, .slice A7 n7 c7] 31)).alloc (.cells #[.bool s7r, .slice A7r n7r c7r] 31) = x7 := hy7
          have HB7 := Lib.hid (show Below x6.heap.size x6 x7 by rw [← hy7]; exact bt hb7 (W2_k _ _ _ _ _ _))
          have HQ7 := Lib.hid (show P2 31 x7 w7.heap.size (.bool s7) (.slice A7 n7 c7) by rw [← hy7]; exact W2_a _ _ _ _ _ _)
          have HQ7r := Lib.hid (show P2 31 x7 (w7.heap.size + 1) (.bool s7r) (.slice A7r n7r c7r) by rw [← hy7]; exact W2_z _ _ _ _ _ _)
          have HR7 := Lib.hid (show PI x7 s7 A7 n7 c7 Q by rw [← hy7]; exact PIo.new hr7 (W2_k _ _ _ _ _ _))
          have HR7r := Lib.hid (show PI x7 s7r A7r n7r c7r R by rw [← hy7]; exact PIo.new hr7r (W2_k _ _ _ _ _ _))
          have hl7 : n7 ≤ 730 := B2.plen hr7 HQB.out
          have hl7r : n7r ≤ 730 := B2.plen hr7r HRB.out
          obtain ⟨p0', p1'⟩ := HQ7.out.cells
          clear hr7 hr7r hb7 hy7 p0 p1 q0 q1 hx6
          obtain ⟨r0, r1⟩ := (HQ26.out.new HB7.out).cells
          have HQ27 := Lib.hid (HQ26.out.new HB7.out)
          have HE07 := Lib.hid ((HB7.out.cell (World.block_lt_of_cell? x6 _ HE06.out)).trans HE06.out)
          have HE17 := Lib.hid ((HB7.out.cell (World.block_lt_of_cell? x6 _ HE16.out)).trans HE16.out)
          have HR57 := Lib.hid (HR56.out.new HB7.out)
          have HR27 := Lib.hid (HR26.out.new HB7.out)
          go_upto_region 15 with fail
          clear hx7 r0 r1 p0' p1'
          let S := fun w' : World => w'.cell? ⟨B, i * 2, none⟩ = some (.bool s5) ∧ w'.cell? ⟨B, i * 2 + 1, none⟩ = some (.slice A5 n5 c5) ∧ w'.cell? ⟨b2, 0, none⟩ = some (.bool s2) ∧ w'.cell? ⟨b2, 1, none⟩ = some (.slice A2 n2 c2) ∧ Below x7.heap.size x7 w'
          have HS : Hid (∀ w', Below x7.heap.size x7 w' → S w') := Lib.hid (fun w' hb => ⟨(hb.cell (World.block_lt_of_cell? x7 _ HE07.out)).trans HE07.out, (hb.cell (World.block_lt_of_cell? x7 _ HE17.out)).trans HE17.out, (HQ27.out.new hb).cells.1, (HQ27.out.new hb).cells.2, hb⟩)
          have K1 : Hid (∀ w', S w' → Calls Try.prog 18 #[.agg #[.bool s5, .slice A5 n5 c5], .agg #[.bool s2, .slice A2 n2 c2]] w' fun e w'' => (∃ s A n c s' A' n' c', e = .returned (.tuple #[.agg #[.bool s, .slice A n c], .agg #[.bool s', .slice A' n' c']]) ∧ Hid (RN w'' s A n c Q ∧ RN w'' s' A' n' c' R)) ∧ Below w'.heap.size w' w'' ∧ S w'') :=
            Lib.hid (fun w' h => (div_any z y s5 s2 A5 A2 n5 c5 n2 c2 w' (HR57.out.new h.2.2.2.2) (HR27.out.new h.2.2.2.2) (by omega) (by omega) HY0.out).mono (fun e w'' ⟨s, A, n, c, s', A', n', c', he, hr, hr', hb⟩ => by rw [HQE.out] at hr; rw [HRE.out] at hr'; exact ⟨⟨s, A, n, c, s', A', n', c', he, Lib.hid ⟨hr, hr'⟩⟩, hb, HS.out _ (bt h.2.2.2.2 hb)⟩))
          have h0i' : (0 : Int) ≤ (i : Int) := by omega
          have HXX := Lib.hid (Below.refl x7.heap.size x7)
          go_cut [16, 17] (fun p q wx => ∃ (G H : Nat) (s : Bool) (A : Option Addr) (n c : Nat) (s' : Bool) (A' : Option Addr) (n' c' : Nat), p = .pointer (some ⟨G, 0, none⟩) ∧ q = .pointer (some ⟨H, 0, none⟩) ∧ P2 24 wx G (.bool s) (.slice A n c) ∧ P2 24 wx H (.bool s') (.slice A' n' c') ∧ RN wx s A n c Q ∧ RN wx s' A' n' c' R ∧ Below x7.heap.size x7 wx)
          case first =>
            obtain ⟨v0, hv0⟩ : ∃ z, World.drew x7 = z := ⟨_, rfl⟩
            have HD0 := Lib.hid (show Below x7.heap.size x7 v0 by rw [← hv0]; exact (Below.refl _ _).drew)
            have HX_0 := Lib.hid (bt HXX.out HD0.out)
            refine wp_region_held_drew (S := (fun w' : World => w'.cell? ⟨B, i * 2, none⟩ = some (.bool s5) ∧ w'.cell? ⟨B, i * 2 + 1, none⟩ = some (.slice A5 n5 c5) ∧ w'.cell? ⟨b2, 0, none⟩ = some (.bool s2) ∧ w'.cell? ⟨b2, 1, none⟩ = some (.slice A2 n2 c2) ∧ Below x7.heap.size x7 w')) (by kernel_rfl) ?_ (fun hHeld => ?_)
            · rw [hv0]
              exact HS.out _ HX_0.out
            rw [hv0] at hHeld ⊢
            clear hv0 HD0
            refine wpAnyH_take (i := 0) (v := ?_) rfl (by kernel_rfl) (by kernel_rfl) (by kernel_rfl) (fun _ _ _ h => h) (Or.inl ⟨by kernel_rfl, ?_⟩) (by assumption) ?_
            rotate_left
            · intro w hSw
              (try dsimp only at hSw)
              go_simp
              all_goals (with_reducible rfl)
            try simp only [Act.put, List.getElem_toArray, List.getElem_cons_zero, List.setIfInBounds_toArray, List.set_cons_zero, List.set_cons_succ]
            refine wpAnyH_take (i := 1) (v := ?_) rfl (by kernel_rfl) (by kernel_rfl) (by kernel_rfl) (fun _ _ _ h => h) (Or.inl ⟨by kernel_rfl, ?_⟩) (by assumption) ?_
            rotate_left
            · intro w hSw
              (try dsimp only at hSw)
              go_simp
              all_goals (with_reducible rfl)
            try simp only [Act.put, List.getElem_toArray, List.getElem_cons_zero, List.getElem_cons_succ, List.setIfInBounds_toArray, List.set_cons_zero, List.set_cons_succ]
            refine wpAnyH_take (i := 2) (v := ?_) rfl (by kernel_rfl) (by kernel_rfl) (by kernel_rfl) (fun _ _ _ h => h) (Or.inl ⟨by kernel_rfl, ?_⟩) (by assumption) ?_
            rotate_left
            · intro w hSw
              (try dsimp only at hSw)
              go_simp
              all_goals (with_reducible rfl)
            try simp only [Act.put, List.getElem_toArray, List.getElem_cons_zero, List.getElem_cons_succ, List.setIfInBounds_toArray, List.set_cons_zero, List.set_cons_succ]
            refine wpAnyH_take (i := 3) (v := ?_) rfl (by kernel_rfl) (by kernel_rfl) (by kernel_rfl) (fun _ _ _ h => h) (Or.inl ⟨by kernel_rfl, ?_⟩) (by assumption) ?_
            rotate_left
            · intro w hSw
              (try dsimp only at hSw)
              go_simp
              all_goals (with_reducible rfl)
            try simp only [Act.put, List.getElem_toArray, List.getElem_cons_zero, List.getElem_cons_succ, List.setIfInBounds_toArray, List.set_cons_zero, List.set_cons_succ]
            refine wpAnyH_take (i := 4) (v := ?_) rfl (by kernel_rfl) (by kernel_rfl) (by kernel_rfl) (fun _ _ _ h => h) (Or.inl ⟨by kernel_rfl, ?_⟩) (by assumption) ?_
            rotate_left
            · intro w hSw
              (try dsimp only at hSw)
              go_simp
              all_goals (with_reducible rfl)
            try simp only [Act.put, List.getElem_toArray, List.getElem_cons_zero, List.getElem_cons_succ, List.setIfInBounds_toArray, List.set_cons_zero, List.set_cons_succ]
            refine wpAnyH_ready (rs := [5, 9, 10]) (by kernel_rfl) (by simp) ?_
            refine AllReadyH.cons rfl (fun K hK => ?_) ?_
            · skip
              go_simp
              go_at_call 18
              refine (K1.out _ ?_).mono ?_
              assumption
              rintro e v1 ⟨⟨s8, A8, n8, c8, s9, A9, n9, c9, rfl, hr8⟩, hk, hc⟩
              have HR8_1 := Lib.hid (hr8.out.1)
              have HR9_1 := Lib.hid (hr8.out.2)
              have HB_1 := Lib.hid hk
              go_wp2_with fail
              have HX_1 := Lib.hid (bt HX_0.out HB_1.out)
              refine hK.out _ _ (HS.out _ HX_1.out) (fun hHeld2 => ?_)
              clear hHeld
              have hHeld := hHeld2
              clear hHeld2 hK K hk HB_1 hc hr8 HX_0
              try simp only [Act.put, List.getElem_toArray, List.getElem_cons_zero, List.getElem_cons_succ, List.setIfInBounds_toArray, List.set_cons_zero, List.set_cons_succ]
              refine wpAnyH_take (i := 6) (v := ?_) rfl (by kernel_rfl) (by kernel_rfl) (by kernel_rfl) (fun _ _ _ h => h) (Or.inl ⟨by kernel_rfl, ?_⟩) (by assumption) ?_
              rotate_left
              · intro w hSw
                (try dsimp only at hSw)
                go_simp
                all_goals (with_reducible rfl)
              try simp only [Act.put, List.getElem_toArray, List.getElem_cons_zero, List.getElem_cons_succ, List.setIfInBounds_toArray, List.set_cons_zero, List.set_cons_succ]
              refine wpAnyH_take (i := 7) (v := ?_) rfl (by kernel_rfl) (by kernel_rfl) (by kernel_rfl) (fun _ _ _ h => h) (Or.inl ⟨by kernel_rfl, ?_⟩) (by assumption) ?_
              rotate_left
              · intro w hSw
                (try dsimp only at hSw)
                go_simp
                all_goals (with_reducible rfl)
              try simp only [Act.put, List.getElem_toArray, List.getElem_cons_zero, List.getElem_cons_succ, List.setIfInBounds_toArray, List.set_cons_zero, List.set_cons_succ]
              refine wpAnyH_take (i := 8) (v := ?_) rfl (by kernel_rfl) (by kernel_rfl) (by kernel_rfl) (fun _ _ _ h => h) (Or.inl ⟨by kernel_rfl, ?_⟩) (by assumption) ?_
              rotate_left
              · intro w hSw
                (try dsimp only at hSw)
                go_simp
                all_goals (with_reducible rfl)
              try simp only [Act.put, List.getElem_toArray, List.getElem_cons_zero, List.getElem_cons_succ, List.setIfInBounds_toArray, List.set_cons_zero, List.set_cons_succ]
              refine wpAnyH_ready (rs := [9, 10]) (by kernel_rfl) (by simp) ?_
              refine AllReadyH.cons rfl (fun K hK => ?_) ?_
              · skip
                go_simp
                have HB_2 := Lib.hid ((Below.refl v1.heap.size v1).alloc (Nat.le_refl _) (.cells #[.bool false, .slice none 0 0] 24))
                have HP_16_2 := Lib.hid (P2.lit v1 24 (.bool false) (.slice none 0 0))
                obtain ⟨v2, hV⟩ : ∃ z, World.alloc v1 (.cells #[.bool false, .slice none 0 0] 24) = z := ⟨_, rfl⟩
                obtain ⟨g16, hg⟩ : ∃ z, v1.heap.size = z := ⟨_, rfl⟩
                rw [hV] at HB_2 HP_16_2  ⊢
                rw [hg] at HP_16_2  ⊢
                have HG_16 := Lib.hid (show x7.heap.size ≤ g16 by rw [← hg]; exact HX_1.out.size)
                have HX_2 := Lib.hid (bt HX_1.out HB_2.out)
                have HR8_2 := Lib.hid ((HR8_1.out).new HB_2.out)
                have HR9_2 := Lib.hid ((HR9_1.out).new HB_2.out)
                refine hK.out _ _ (HS.out _ HX_2.out) (fun hHeld2 => ?_)
                clear hHeld
                have hHeld := hHeld2
                clear hHeld2 hK K hV hg HB_2 HX_1 HR8_1 HR9_1
                try simp only [Act.put, List.getElem_toArray, List.getElem_cons_zero, List.getElem_cons_succ, List.setIfInBounds_toArray, List.set_cons_zero, List.set_cons_succ]
                refine wpAnyH_ready (rs := [10]) (by kernel_rfl) (by simp) ?_
                refine AllReadyH.cons rfl (fun K hK => ?_) AllReadyH.nil
                go_simp
                have HB_3 := Lib.hid ((Below.refl v2.heap.size v2).alloc (Nat.le_refl _) (.cells #[.bool false, .slice none 0 0] 24))
                have HP_17_3 := Lib.hid (P2.lit v2 24 (.bool false) (.slice none 0 0))
                obtain ⟨v3, hV⟩ : ∃ z, World.alloc v2 (.cells #[.bool false, .slice none 0 0] 24) = z := ⟨_, rfl⟩
                obtain ⟨g17, hg⟩ : ∃ z, v2.heap.size = z := ⟨_, rfl⟩
                rw [hV] at HB_3 HP_17_3  ⊢
                rw [hg] at HP_17_3  ⊢
                have HG_17 := Lib.hid (show x7.heap.size ≤ g17 by rw [← hg]; exact HX_2.out.size)
                have HN_16_17 := Lib.hid (show g16 ≠ g17 by have := HP_16_2.out.lt; rw [hg] at this; omega)
                have HX_3 := Lib.hid (bt HX_2.out HB_3.out)
                have HR8_3 := Lib.hid ((HR8_2.out).new HB_3.out)
                have HR9_3 := Lib.hid ((HR9_2.out).new HB_3.out)
                have HP_16_3 := Lib.hid (HP_16_2.out.new HB_3.out)
                refine hK.out _ _ (HS.out _ HX_3.out) (fun hHeld2 => ?_)
                clear hHeld
                have hHeld := hHeld2
                clear hHeld2 hK K hV hg HB_3 HX_2 HR8_2 HR9_2 HP_16_2
                try simp only [Act.put, List.getElem_toArray, List.getElem_cons_zero, List.getElem_cons_succ, List.setIfInBounds_toArray, List.set_cons_zero, List.set_cons_succ]
                refine wpAnyH_ready (rs := [11]) (by kernel_rfl) (by simp) ?_
                refine AllReadyH.cons rfl (fun K hK => ?_) AllReadyH.nil
                obtain ⟨z0, z1⟩ := HP_16_3.out.cells
                have y0 := HP_16_3.out.frozen 0
                have y1 := HP_16_3.out.frozen 1
                have z9 := HP_16_3.out.lt
                go_simp
                obtain ⟨v4, hV⟩ : ∃ z, World.setCell (World.setCell v3 ⟨g16, 0, none⟩ (.bool s8)) ⟨g16, 1, none⟩ (.slice A8 n8 c8) = z := ⟨_, rfl⟩
                rw [hV]
                have HX_4 := Lib.hid (show Below x7.heap.size x7 v4 by rw [← hV]; exact below_box HX_3.out (HG_16.out) _ _)
                have HR8_4 := Lib.hid (show RN v4 s8 A8 n8 c8 (Q) by rw [← hV]; exact (HR8_3.out).boxN HP_16_3.out (.bool s8) (.slice A8 n8 c8))
                have HR9_4 := Lib.hid (show RN v4 s9 A9 n9 c9 (R) by rw [← hV]; exact (HR9_3.out).boxN HP_16_3.out (.bool s8) (.slice A8 n8 c8))
                have HP_17_4 := Lib.hid (show P2 24 v4 g17 (.bool false) (.slice none 0 0) by rw [← hV]; exact HP_17_3.out.far2 (show g17 ≠ g16 from HN_16_17.out.symm) (.bool s8) (.slice A8 n8 c8))
                have HP_16_4 := Lib.hid (show P2 24 v4 g16 (.bool s8) (.slice A8 n8 c8) by rw [← hV]; exact HP_16_3.out.all (.bool s8) (.slice A8 n8 c8))
                refine hK.out _ _ (HS.out _ HX_4.out) (fun hHeld2 => ?_)
                clear hHeld
                have hHeld := hHeld2
                clear hHeld2 hK K hV z9 z0 z1 y0 y1 HX_3 HR8_3 HR9_3 HP_17_3 HP_16_3
                try simp only [Act.put, List.getElem_toArray, List.getElem_cons_zero, List.getElem_cons_succ, List.setIfInBounds_toArray, List.set_cons_zero, List.set_cons_succ]
                refine wpAnyH_ready (rs := [12]) (by kernel_rfl) (by simp) ?_
                refine AllReadyH.cons rfl (fun K hK => ?_) AllReadyH.nil
                obtain ⟨z0, z1⟩ := HP_17_4.out.cells
                have y0 := HP_17_4.out.frozen 0
                have y1 := HP_17_4.out.frozen 1
                have z9 := HP_17_4.out.lt
                go_simp
                obtain ⟨v5, hV⟩ : ∃ z, World.setCell (World.setCell v4 ⟨g17, 0, none⟩ (.bool s9)) ⟨g17, 1, none⟩ (.slice A9 n9 c9) = z := ⟨_, rfl⟩
                rw [hV]
                have HX_5 := Lib.hid (show Below x7.heap.size x7 v5 by rw [← hV]; exact below_box HX_4.out (HG_17.out) _ _)
                have HR8_5 := Lib.hid (show RN v5 s8 A8 n8 c8 (Q) by rw [← hV]; exact (HR8_4.out).boxN HP_17_4.out (.bool s9) (.slice A9 n9 c9))
                have HR9_5 := Lib.hid (show RN v5 s9 A9 n9 c9 (R) by rw [← hV]; exact (HR9_4.out).boxN HP_17_4.out (.bool s9) (.slice A9 n9 c9))
                have HP_16_5 := Lib.hid (show P2 24 v5 g16 (.bool s8) (.slice A8 n8 c8) by rw [← hV]; exact HP_16_4.out.far2 (show g16 ≠ g17 from HN_16_17.out) (.bool s9) (.slice A9 n9 c9))
                have HP_17_5 := Lib.hid (show P2 24 v5 g17 (.bool s9) (.slice A9 n9 c9) by rw [← hV]; exact HP_17_4.out.all (.bool s9) (.slice A9 n9 c9))
                refine hK.out _ _ (HS.out _ HX_5.out) (fun hHeld2 => ?_)
                clear hHeld
                have hHeld := hHeld2
                clear hHeld2 hK K hV z9 z0 z1 y0 y1 HX_4 HR8_4 HR9_4 HP_16_4 HP_17_4
                try simp only [Act.put, List.getElem_toArray, List.getElem_cons_zero, List.getElem_cons_succ, List.setIfInBounds_toArray, List.set_cons_zero, List.set_cons_succ]
                refine wpAnyH_done (by kernel_rfl) ?_ _
                clear hHeld
                go_wp2_with fail
                go_meet
                exact ⟨g16, g17, s8, A8, n8, c8, s9, A9, n9, c9, rfl, rfl, HP_16_5.out, HP_17_5.out, HR8_5.out, HR9_5.out, HX_5.out⟩
              refine AllReadyH.cons rfl (fun K hK => ?_) AllReadyH.nil
              · skip
                go_simp
                have HB_6 := Lib.hid ((Below.refl v1.heap.size v1).alloc (Nat.le_refl _) (.cells #[.bool false, .slice none 0 0] 24))
                have HP_17_6 := Lib.hid (P2.lit v1 24 (.bool false) (.slice none 0 0))
                obtain ⟨v6, hV⟩ : ∃ z, World.alloc v1 (.cells #[.bool false, .slice none 0 0] 24) = z := ⟨_, rfl⟩
                obtain ⟨g17, hg⟩ : ∃ z, v1.heap.size = z := ⟨_, rfl⟩
                rw [hV] at HB_6 HP_17_6  ⊢
                rw [hg] at HP_17_6  ⊢
                have HG_17 := Lib.hid (show x7.heap.size ≤ g17 by rw [← hg]; exact HX_1.out.size)
                have HX_6 := Lib.hid (bt HX_1.out HB_6.out)
                have HR8_6 := Lib.hid ((HR8_1.out).new HB_6.out)
                have HR9_6 := Lib.hid ((HR9_1.out).new HB_6.out)
                refine hK.out _ _ (HS.out _ HX_6.out) (fun hHeld2 => ?_)
                clear hHeld
                have hHeld := hHeld2
                clear hHeld2 hK K hV hg HB_6 HX_1 HR8_1 HR9_1
                try simp only [Act.put, List.getElem_toArray, List.getElem_cons_zero, List.getElem_cons_succ, List.setIfInBounds_toArray, List.set_cons_zero, List.set_cons_succ]
                refine wpAnyH_ready (rs := [9]) (by kernel_rfl) (by simp) ?_
                refine AllReadyH.cons rfl (fun K hK => ?_) AllReadyH.nil
                go_simp
                have HB_7 := Lib.hid ((Below.refl v6.heap.size v6).alloc (Nat.le_refl _) (.cells #[.bool false, .slice none 0 0] 24))
                have HP_16_7 := Lib.hid (P2.lit v6 24 (.bool false) (.slice none 0 0))
                obtain ⟨v7, hV⟩ : ∃ z, World.alloc v6 (.cells #[.bool false, .slice none 0 0] 24) = z := ⟨_, rfl⟩
                obtain ⟨g16, hg⟩ : ∃ z, v6.heap.size = z := ⟨_, rfl⟩
                rw [hV] at HB_7 HP_16_7  ⊢
                rw [hg] at HP_16_7  ⊢
                have HG_16 := Lib.hid (show x7.heap.size ≤ g16 by rw [← hg]; exact HX_6.out.size)
                have HN_17_16 := Lib.hid (show g17 ≠ g16 by have := HP_17_6.out.lt; rw [hg] at this; omega)
                have HX_7 := Lib.hid (bt HX_6.out HB_7.out)
                have HR8_7 := Lib.hid ((HR8_6.out).new HB_7.out)
                have HR9_7 := Lib.hid ((HR9_6.out).new HB_7.out)
                have HP_17_7 := Lib.hid (HP_17_6.out.new HB_7.out)
                refine hK.out _ _ (HS.out _ HX_7.out) (fun hHeld2 => ?_)
                clear hHeld
                have hHeld := hHeld2
                clear hHeld2 hK K hV hg HB_7 HX_6 HR8_6 HR9_6 HP_17_6
                try simp only [Act.put, List.getElem_toArray, List.getElem_cons_zero, List.getElem_cons_succ, List.setIfInBounds_toArray, List.set_cons_zero, List.set_cons_succ]
                refine wpAnyH_ready (rs := [11]) (by kernel_rfl) (by simp) ?_
                refine AllReadyH.cons rfl (fun K hK => ?_) AllReadyH.nil
                obtain ⟨z0, z1⟩ := HP_16_7.out.cells
                have y0 := HP_16_7.out.frozen 0
                have y1 := HP_16_7.out.frozen 1
                have z9 := HP_16_7.out.lt
                go_simp
                obtain ⟨v8, hV⟩ : ∃ z, World.setCell (World.setCell v7 ⟨g16, 0, none⟩ (.bool s8)) ⟨g16, 1, none⟩ (.slice A8 n8 c8) = z := ⟨_, rfl⟩
                rw [hV]
                have HX_8 := Lib.hid (show Below x7.heap.size x7 v8 by rw [← hV]; exact below_box HX_7.out (HG_16.out) _ _)
                have HR8_8 := Lib.hid (show RN v8 s8 A8 n8 c8 (Q) by rw [← hV]; exact (HR8_7.out).boxN HP_16_7.out (.bool s8) (.slice A8 n8 c8))
                have HR9_8 := Lib.hid (show RN v8 s9 A9 n9 c9 (R) by rw [← hV]; exact (HR9_7.out).boxN HP_16_7.out (.bool s8) (.slice A8 n8 c8))
                have HP_17_8 := Lib.hid (show P2 24 v8 g17 (.bool false) (.slice none 0 0) by rw [← hV]; exact HP_17_7.out.far2 (show g17 ≠ g16 from HN_17_16.out) (.bool s8) (.slice A8 n8 c8))
                have HP_16_8 := Lib.hid (show P2 24 v8 g16 (.bool s8) (.slice A8 n8 c8) by rw [← hV]; exact HP_16_7.out.all (.bool s8) (.slice A8 n8 c8))
                refine hK.out _ _ (HS.out _ HX_8.out) (fun hHeld2 => ?_)
                clear hHeld
                have hHeld := hHeld2
                clear hHeld2 hK K hV z9 z0 z1 y0 y1 HX_7 HR8_7 HR9_7 HP_17_7 HP_16_7
                try simp only [Act.put, List.getElem_toArray, List.getElem_cons_zero, List.getElem_cons_succ, List.setIfInBounds_toArray, List.set_cons_zero, List.set_cons_succ]
                refine wpAnyH_ready (rs := [12]) (by kernel_rfl) (by simp) ?_
                refine AllReadyH.cons rfl (fun K hK => ?_) AllReadyH.nil
                obtain ⟨z0, z1⟩ := HP_17_8.out.cells
                have y0 := HP_17_8.out.frozen 0
                have y1 := HP_17_8.out.frozen 1
                have z9 := HP_17_8.out.lt
                go_simp
                obtain ⟨v9, hV⟩ : ∃ z, World.setCell (World.setCell v8 ⟨g17, 0, none⟩ (.bool s9)) ⟨g17, 1, none⟩ (.slice A9 n9 c9) = z := ⟨_, rfl⟩
                rw [hV]
                have HX_9 := Lib.hid (show Below x7.heap.size x7 v9 by rw [← hV]; exact below_box HX_8.out (HG_17.out) _ _)
                have HR8_9 := Lib.hid (show RN v9 s8 A8 n8 c8 (Q) by rw [← hV]; exact (HR8_8.out).boxN HP_17_8.out (.bool s9) (.slice A9 n9 c9))
                have HR9_9 := Lib.hid (show RN v9 s9 A9 n9 c9 (R) by rw [← hV]; exact (HR9_8.out).boxN HP_17_8.out (.bool s9) (.slice A9 n9 c9))
                have HP_16_9 := Lib.hid (show P2 24 v9 g16 (.bool s8) (.slice A8 n8 c8) by rw [← hV]; exact HP_16_8.out.far2 (show g16 ≠ g17 from HN_17_16.out.symm) (.bool s9) (.slice A9 n9 c9))
                have HP_17_9 := Lib.hid (show P2 24 v9 g17 (.bool s9) (.slice A9 n9 c9) by rw [← hV]; exact HP_17_8.out.all (.bool s9) (.slice A9 n9 c9))
                refine hK.out _ _ (HS.out _ HX_9.out) (fun hHeld2 => ?_)
                clear hHeld
                have hHeld := hHeld2
                clear hHeld2 hK K hV z9 z0 z1 y0 y1 HX_8 HR8_8 HR9_8 HP_16_8 HP_17_8
                try simp only [Act.put, List.getElem_toArray, List.getElem_cons_zero, List.getElem_cons_succ, List.setIfInBounds_toArray, List.set_cons_zero, List.set_cons_succ]
                refine wpAnyH_done (by kernel_rfl) ?_ _
                clear hHeld
                go_wp2_with fail
                go_meet
                exact ⟨g16, g17, s8, A8, n8, c8, s9, A9, n9, c9, rfl, rfl, HP_16_9.out, HP_17_9.out, HR8_9.out, HR9_9.out, HX_9.out⟩
            refine AllReadyH.cons rfl (fun K hK => ?_) ?_
            · skip
              go_simp
              have HB_10 := Lib.hid ((Below.refl v0.heap.size v0).alloc (Nat.le_refl _) (.cells #[.bool false, .slice none 0 0] 24))
              have HP_16_10 := Lib.hid (P2.lit v0 24 (.bool false) (.slice none 0 0))
              obtain ⟨v10, hV⟩ : ∃ z, World.alloc v0 (.cells #[.bool false, .slice none 0 0] 24) = z := ⟨_, rfl⟩
              obtain ⟨g16, hg⟩ : ∃ z, v0.heap.size = z := ⟨_, rfl⟩
              rw [hV] at HB_10 HP_16_10  ⊢
              rw [hg] at HP_16_10  ⊢
              have HG_16 := Lib.hid (show x7.heap.size ≤ g16 by rw [← hg]; exact HX_0.out.size)
              have HX_10 := Lib.hid (bt HX_0.out HB_10.out)
              refine hK.out _ _ (HS.out _ HX_10.out) (fun hHeld2 => ?_)
              clear hHeld
              have hHeld := hHeld2
              clear hHeld2 hK K hV hg HB_10 HX_0
              try simp only [Act.put, List.getElem_toArray, List.getElem_cons_zero, List.getElem_cons_succ, List.setIfInBounds_toArray, List.set_cons_zero, List.set_cons_succ]
              refine wpAnyH_ready (rs := [5, 10]) (by kernel_rfl) (by simp) ?_
              refine AllReadyH.cons rfl (fun K hK => ?_) ?_
              · skip
                go_simp
                go_at_call 18
                refine (K1.out _ ?_).mono ?_
                assumption
                rintro e v11 ⟨⟨s8, A8, n8, c8, s9, A9, n9, c9, rfl, hr8⟩, hk, hc⟩
                have HR8_11 := Lib.hid (hr8.out.1)
                have HR9_11 := Lib.hid (hr8.out.2)
                have HB_11 := Lib.hid hk
                go_wp2_with fail
                have HX_11 := Lib.hid (bt HX_10.out HB_11.out)
                have HP_16_11 := Lib.hid (HP_16_10.out.new HB_11.out)
                refine hK.out _ _ (HS.out _ HX_11.out) (fun hHeld2 => ?_)
                clear hHeld
                have hHeld := hHeld2
                clear hHeld2 hK K hk HB_11 hc hr8 HX_10 HP_16_10
                try simp only [Act.put, List.getElem_toArray, List.getElem_cons_zero, List.getElem_cons_succ, List.setIfInBounds_toArray, List.set_cons_zero, List.set_cons_succ]
                refine wpAnyH_take (i := 6) (v := ?_) rfl (by kernel_rfl) (by kernel_rfl) (by kernel_rfl) (fun _ _ _ h => h) (Or.inl ⟨by kernel_rfl, ?_⟩) (by assumption) ?_
                rotate_left
                · intro w hSw
                  (try dsimp only at hSw)
                  go_simp
                  all_goals (with_reducible rfl)
                try simp only [Act.put, List.getElem_toArray, List.getElem_cons_zero, List.getElem_cons_succ, List.setIfInBounds_toArray, List.set_cons_zero, List.set_cons_succ]
                refine wpAnyH_take (i := 7) (v := ?_) rfl (by kernel_rfl) (by kernel_rfl) (by kernel_rfl) (fun _ _ _ h => h) (Or.inl ⟨by kernel_rfl, ?_⟩) (by assumption) ?_
                rotate_left
                · intro w hSw
                  (try dsimp only at hSw)
                  go_simp
                  all_goals (with_reducible rfl)
                try simp only [Act.put, List.getElem_toArray, List.getElem_cons_zero, List.getElem_cons_succ, List.setIfInBounds_toArray, List.set_cons_zero, List.set_cons_succ]
                refine wpAnyH_take (i := 8) (v := ?_) rfl (by kernel_rfl) (by kernel_rfl) (by kernel_rfl) (fun _ _ _ h => h) (Or.inl ⟨by kernel_rfl, ?_⟩) (by assumption) ?_
                rotate_left
                · intro w hSw
                  (try dsimp only at hSw)
                  go_simp
                  all_goals (with_reducible rfl)
                try simp only [Act.put, List.getElem_toArray, List.getElem_cons_zero, List.getElem_cons_succ, List.setIfInBounds_toArray, List.set_cons_zero, List.set_cons_succ]
                refine wpAnyH_ready (rs := [10]) (by kernel_rfl) (by simp) ?_
                refine AllReadyH.cons rfl (fun K hK => ?_) AllReadyH.nil
                go_simp
                have HB_12 := Lib.hid ((Below.refl v11.heap.size v11).alloc (Nat.le_refl _) (.cells #[.bool false, .slice none 0 0] 24))
                have HP_17_12 := Lib.hid (P2.lit v11 24 (.bool false) (.slice none 0 0))
                obtain ⟨v12, hV⟩ : ∃ z, World.alloc v11 (.cells #[.bool false, .slice none 0 0] 24) = z := ⟨_, rfl⟩
                obtain ⟨g17, hg⟩ : ∃ z, v11.heap.size = z := ⟨_, rfl⟩
                rw [hV] at HB_12 HP_17_12  ⊢
                rw [hg] at HP_17_12  ⊢
                have HG_17 := Lib.hid (show x7.heap.size ≤ g17 by rw [← hg]; exact HX_11.out.size)
                have HN_16_17 := Lib.hid (show g16 ≠ g17 by have := HP_16_11.out.lt; rw [hg] at this; omega)
                have HX_12 := Lib.hid (bt HX_11.out HB_12.out)
                have HR8_12 := Lib.hid ((HR8_11.out).new HB_12.out)
                have HR9_12 := Lib.hid ((HR9_11.out).new HB_12.out)
                have HP_16_12 := Lib.hid (HP_16_11.out.new HB_12.out)
                refine hK.out _ _ (HS.out _ HX_12.out) (fun hHeld2 => ?_)
                clear hHeld
                have hHeld := hHeld2
                clear hHeld2 hK K hV hg HB_12 HX_11 HR8_11 HR9_11 HP_16_11
                try simp only [Act.put, List.getElem_toArray, List.getElem_cons_zero, List.getElem_cons_succ, List.setIfInBounds_toArray, List.set_cons_zero, List.set_cons_succ]
                refine wpAnyH_ready (rs := [11]) (by kernel_rfl) (by simp) ?_
                refine AllReadyH.cons rfl (fun K hK => ?_) AllReadyH.nil
                obtain ⟨z0, z1⟩ := HP_16_12.out.cells
                have y0 := HP_16_12.out.frozen 0
                have y1 := HP_16_12.out.frozen 1
                have z9 := HP_16_12.out.lt
                go_simp
                obtain ⟨v13, hV⟩ : ∃ z, World.setCell (World.setCell v12 ⟨g16, 0, none⟩ (.bool s8)) ⟨g16, 1, none⟩ (.slice A8 n8 c8) = z := ⟨_, rfl⟩
                rw [hV]
                have HX_13 := Lib.hid (show Below x7.heap.size x7 v13 by rw [← hV]; exact below_box HX_12.out (HG_16.out) _ _)
                have HR8_13 := Lib.hid (show RN v13 s8 A8 n8 c8 (Q) by rw [← hV]; exact (HR8_12.out).boxN HP_16_12.out (.bool s8) (.slice A8 n8 c8))
                have HR9_13 := Lib.hid (show RN v13 s9 A9 n9 c9 (R) by rw [← hV]; exact (HR9_12.out).boxN HP_16_12.out (.bool s8) (.slice A8 n8 c8))
                have HP_17_13 := Lib.hid (show P2 24 v13 g17 (.bool false) (.slice none 0 0) by rw [← hV]; exact HP_17_12.out.far2 (show g17 ≠ g16 from HN_16_17.out.symm) (.bool s8) (.slice A8 n8 c8))
                have HP_16_13 := Lib.hid (show P2 24 v13 g16 (.bool s8) (.slice A8 n8 c8) by rw [← hV]; exact HP_16_12.out.all (.bool s8) (.slice A8 n8 c8))
                refine hK.out _ _ (HS.out _ HX_13.out) (fun hHeld2 => ?_)
                clear hHeld
                have hHeld := hHeld2
                clear hHeld2 hK K hV z9 z0 z1 y0 y1 HX_12 HR8_12 HR9_12 HP_17_12 HP_16_12
                try simp only [Act.put, List.getElem_toArray, List.getElem_cons_zero, List.getElem_cons_succ, List.setIfInBounds_toArray, List.set_cons_zero, List.set_cons_succ]
                refine wpAnyH_ready (rs := [12]) (by kernel_rfl) (by simp) ?_
                refine AllReadyH.cons rfl (fun K hK => ?_) AllReadyH.nil
                obtain ⟨z0, z1⟩ := HP_17_13.out.cells
                have y0 := HP_17_13.out.frozen 0
                have y1 := HP_17_13.out.frozen 1
                have z9 := HP_17_13.out.lt
                go_simp
                obtain ⟨v14, hV⟩ : ∃ z, World.setCell (World.setCell v13 ⟨g17, 0, none⟩ (.bool s9)) ⟨g17, 1, none⟩ (.slice A9 n9 c9) = z := ⟨_, rfl⟩
                rw [hV]
                have HX_14 := Lib.hid (show Below x7.heap.size x7 v14 by rw [← hV]; exact below_box HX_13.out (HG_17.out) _ _)
                have HR8_14 := Lib.hid (show RN v14 s8 A8 n8 c8 (Q) by rw [← hV]; exact (HR8_13.out).boxN HP_17_13.out (.bool s9) (.slice A9 n9 c9))
                have HR9_14 := Lib.hid (show RN v14 s9 A9 n9 c9 (R) by rw [← hV]; exact (HR9_13.out).boxN HP_17_13.out (.bool s9) (.slice A9 n9 c9))
                have HP_16_14 := Lib.hid (show P2 24 v14 g16 (.bool s8) (.slice A8 n8 c8) by rw [← hV]; exact HP_16_13.out.far2 (show g16 ≠ g17 from HN_16_17.out) (.bool s9) (.slice A9 n9 c9))
                have HP_17_14 := Lib.hid (show P2 24 v14 g17 (.bool s9) (.slice A9 n9 c9) by rw [← hV]; exact HP_17_13.out.all (.bool s9) (.slice A9 n9 c9))
                refine hK.out _ _ (HS.out _ HX_14.out) (fun hHeld2 => ?_)
                clear hHeld
                have hHeld := hHeld2
                clear hHeld2 hK K hV z9 z0 z1 y0 y1 HX_13 HR8_13 HR9_13 HP_16_13 HP_17_13
                try simp only [Act.put, List.getElem_toArray, List.getElem_cons_zero, List.getElem_cons_succ, List.setIfInBounds_toArray, List.set_cons_zero, List.set_cons_succ]
                refine wpAnyH_done (by kernel_rfl) ?_ _
                clear hHeld
                go_wp2_with fail
                go_meet
                exact ⟨g16, g17, s8, A8, n8, c8, s9, A9, n9, c9, rfl, rfl, HP_16_14.out, HP_17_14.out, HR8_14.out, HR9_14.out, HX_14.out⟩
              refine AllReadyH.cons rfl (fun K hK => ?_) AllReadyH.nil
              · skip
                go_simp
                have HB_15 := Lib.hid ((Below.refl v10.heap.size v10).alloc (Nat.le_refl _) (.cells #[.bool false, .slice none 0 0] 24))
                have HP_17_15 := Lib.hid (P2.lit v10 24 (.bool false) (.slice none 0 0))
                obtain ⟨v15, hV⟩ : ∃ z, World.alloc v10 (.cells #[.bool false, .slice none 0 0] 24) = z := ⟨_, rfl⟩
                obtain ⟨g17, hg⟩ : ∃ z, v10.heap.size = z := ⟨_, rfl⟩
                rw [hV] at HB_15 HP_17_15  ⊢
                rw [hg] at HP_17_15  ⊢
                have HG_17 := Lib.hid (show x7.heap.size ≤ g17 by rw [← hg]; exact HX_10.out.size)
                have HN_16_17 := Lib.hid (show g16 ≠ g17 by have := HP_16_10.out.lt; rw [hg] at this; omega)
                have HX_15 := Lib.hid (bt HX_10.out HB_15.out)
                have HP_16_15 := Lib.hid (HP_16_10.out.new HB_15.out)
                refine hK.out _ _ (HS.out _ HX_15.out) (fun hHeld2 => ?_)
                clear hHeld
                have hHeld := hHeld2
                clear hHeld2 hK K hV hg HB_15 HX_10 HP_16_10
                try simp only [Act.put, List.getElem_toArray, List.getElem_cons_zero, List.getElem_cons_succ, List.setIfInBounds_toArray, List.set_cons_zero, List.set_cons_succ]
                refine wpAnyH_ready (rs := [5]) (by kernel_rfl) (by simp) ?_
                refine AllReadyH.cons rfl (fun K hK => ?_) AllReadyH.nil
                go_simp
                go_at_call 18
                refine (K1.out _ ?_).mono ?_
                assumption
                rintro e v16 ⟨⟨s8, A8, n8, c8, s9, A9, n9, c9, rfl, hr8⟩, hk, hc⟩
                have HR8_16 := Lib.hid (hr8.out.1)
                have HR9_16 := Lib.hid (hr8.out.2)
                have HB_16 := Lib.hid hk
                go_wp2_with fail
                have HX_16 := Lib.hid (bt HX_15.out HB_16.out)
                have HP_16_16 := Lib.hid (HP_16_15.out.new HB_16.out)
                have HP_17_16 := Lib.hid (HP_17_15.out.new HB_16.out)
                refine hK.out _ _ (HS.out _ HX_16.out) (fun hHeld2 => ?_)
                clear hHeld
                have hHeld := hHeld2
                clear hHeld2 hK K hk HB_16 hc hr8 HX_15 HP_16_15 HP_17_15
                try simp only [Act.put, List.getElem_toArray, List.getElem_cons_zero, List.getElem_cons_succ, List.setIfInBounds_toArray, List.set_cons_zero, List.set_cons_succ]
                refine wpAnyH_take (i := 6) (v := ?_) rfl (by kernel_rfl) (by kernel_rfl) (by kernel_rfl) (fun _ _ _ h => h) (Or.inl ⟨by kernel_rfl, ?_⟩) (by assumption) ?_
                rotate_left
                · intro w hSw
                  (try dsimp only at hSw)
                  go_simp
                  all_goals (with_reducible rfl)
                try simp only [Act.put, List.getElem_toArray, List.getElem_cons_zero, List.getElem_cons_succ, List.setIfInBounds_toArray, List.set_cons_zero, List.set_cons_succ]
                refine wpAnyH_take (i := 7) (v := ?_) rfl (by kernel_rfl) (by kernel_rfl) (by kernel_rfl) (fun _ _ _ h => h) (Or.inl ⟨by kernel_rfl, ?_⟩) (by assumption) ?_
                rotate_left
                · intro w hSw
                  (try dsimp only at hSw)
                  go_simp
                  all_goals (with_reducible rfl)
                try simp only [Act.put, List.getElem_toArray, List.getElem_cons_zero, List.getElem_cons_succ, List.setIfInBounds_toArray, List.set_cons_zero, List.set_cons_succ]
                refine wpAnyH_take (i := 8) (v := ?_) rfl (by kernel_rfl) (by kernel_rfl) (by kernel_rfl) (fun _ _ _ h => h) (Or.inl ⟨by kernel_rfl, ?_⟩) (by assumption) ?_
                rotate_left
                · intro w hSw
                  (try dsimp only at hSw)
                  go_simp
                  all_goals (with_reducible rfl)
                try simp only [Act.put, List.getElem_toArray, List.getElem_cons_zero, List.getElem_cons_succ, List.setIfInBounds_toArray, List.set_cons_zero, List.set_cons_succ]
                refine wpAnyH_ready (rs := [11]) (by kernel_rfl) (by simp) ?_
                refine AllReadyH.cons rfl (fun K hK => ?_) AllReadyH.nil
                obtain ⟨z0, z1⟩ := HP_16_16.out.cells
                have y0 := HP_16_16.out.frozen 0
                have y1 := HP_16_16.out.frozen 1
                have z9 := HP_16_16.out.lt
                go_simp
                obtain ⟨v17, hV⟩ : ∃ z, World.setCell (World.setCell v16 ⟨g16, 0, none⟩ (.bool s8)) ⟨g16, 1, none⟩ (.slice A8 n8 c8) = z := ⟨_, rfl⟩
                rw [hV]
                have HX_17 := Lib.hid (show Below x7.heap.size x7 v17 by rw [← hV]; exact below_box HX_16.out (HG_16.out) _ _)
                have HR8_17 := Lib.hid (show RN v17 s8 A8 n8 c8 (Q) by rw [← hV]; exact (HR8_16.out).boxN HP_16_16.out (.bool s8) (.slice A8 n8 c8))
                have HR9_17 := Lib.hid (show RN v17 s9 A9 n9 c9 (R) by rw [← hV]; exact (HR9_16.out).boxN HP_16_16.out (.bool s8) (.slice A8 n8 c8))
                have HP_17_17 := Lib.hid (show P2 24 v17 g17 (.bool false) (.slice none 0 0) by rw [← hV]; exact HP_17_16.out.far2 (show g17 ≠ g16 from HN_16_17.out.symm) (.bool s8) (.slice A8 n8 c8))
                have HP_16_17 := Lib.hid (show P2 24 v17 g16 (.bool s8) (.slice A8 n8 c8) by rw [← hV]; exact HP_16_16.out.all (.bool s8) (.slice A8 n8 c8))
                refine hK.out _ _ (HS.out _ HX_17.out) (fun hHeld2 => ?_)
                clear hHeld
                have hHeld := hHeld2
                clear hHeld2 hK K hV z9 z0 z1 y0 y1 HX_16 HR8_16 HR9_16 HP_17_16 HP_16_16
                try simp only [Act.put, List.getElem_toArray, List.getElem_cons_zero, List.getElem_cons_succ, List.setIfInBounds_toArray, List.set_cons_zero, List.set_cons_succ]
                refine wpAnyH_ready (rs := [12]) (by kernel_rfl) (by simp) ?_
                refine AllReadyH.cons rfl (fun K hK => ?_) AllReadyH.nil
                obtain ⟨z0, z1⟩ := HP_17_17.out.cells
                have y0 := HP_17_17.out.frozen 0
                have y1 := HP_17_17.out.frozen 1
                have z9 := HP_17_17.out.lt
                go_simp
                obtain ⟨v18, hV⟩ : ∃ z, World.setCell (World.setCell v17 ⟨g17, 0, none⟩ (.bool s9)) ⟨g17, 1, none⟩ (.slice A9 n9 c9) = z := ⟨_, rfl⟩
                rw [hV]
                have HX_18 := Lib.hid (show Below x7.heap.size x7 v18 by rw [← hV]; exact below_box HX_17.out (HG_17.out) _ _)
                have HR8_18 := Lib.hid (show RN v18 s8 A8 n8 c8 (Q) by rw [← hV]; exact (HR8_17.out).boxN HP_17_17.out (.bool s9) (.slice A9 n9 c9))
                have HR9_18 := Lib.hid (show RN v18 s9 A9 n9 c9 (R) by rw [← hV]; exact (HR9_17.out).boxN HP_17_17.out (.bool s9) (.slice A9 n9 c9))
                have HP_16_18 := Lib.hid (show P2 24 v18 g16 (.bool s8) (.slice A8 n8 c8) by rw [← hV]; exact HP_16_17.out.far2 (show g16 ≠ g17 from HN_16_17.out) (.bool s9) (.slice A9 n9 c9))
                have HP_17_18 := Lib.hid (show P2 24 v18 g17 (.bool s9) (.slice A9 n9 c9) by rw [← hV]; exact HP_17_17.out.all (.bool s9) (.slice A9 n9 c9))
                refine hK.out _ _ (HS.out _ HX_18.out) (fun hHeld2 => ?_)
                clear hHeld
                have hHeld := hHeld2
                clear hHeld2 hK K hV z9 z0 z1 y0 y1 HX_17 HR8_17 HR9_17 HP_16_17 HP_17_17
                try simp only [Act.put, List.getElem_toArray, List.getElem_cons_zero, List.getElem_cons_succ, List.setIfInBounds_toArray, List.set_cons_zero, List.set_cons_succ]
                refine wpAnyH_done (by kernel_rfl) ?_ _
                clear hHeld
                go_wp2_with fail
                go_meet
                exact ⟨g16, g17, s8, A8, n8, c8, s9, A9, n9, c9, rfl, rfl, HP_16_18.out, HP_17_18.out, HR8_18.out, HR9_18.out, HX_18.out⟩
            refine AllReadyH.cons rfl (fun K hK => ?_) AllReadyH.nil
            · skip
              go_simp
              have HB_19 := Lib.hid ((Below.refl v0.heap.size v0).alloc (Nat.le_refl _) (.cells #[.bool false, .slice none 0 0] 24))
              have HP_17_19 := Lib.hid (P2.lit v0 24 (.bool false) (.slice none 0 0))
              obtain ⟨v19, hV⟩ : ∃ z, World.alloc v0 (.cells #[.bool false, .slice none 0 0] 24) = z := ⟨_, rfl⟩
              obtain ⟨g17, hg⟩ : ∃ z, v0.heap.size = z := ⟨_, rfl⟩
              rw [hV] at HB_19 HP_17_19  ⊢
              rw [hg] at HP_17_19  ⊢
              have HG_17 := Lib.hid (show x7.heap.size ≤ g17 by rw [← hg]; exact HX_0.out.size)
              have HX_19 := Lib.hid (bt HX_0.out HB_19.out)
              refine hK.out _ _ (HS.out _ HX_19.out) (fun hHeld2 => ?_)
              clear hHeld
              have hHeld := hHeld2
              clear hHeld2 hK K hV hg HB_19 HX_0
              try simp only [Act.put, List.getElem_toArray, List.getElem_cons_zero, List.getElem_cons_succ, List.setIfInBounds_toArray, List.set_cons_zero, List.set_cons_succ]
              refine wpAnyH_ready (rs := [5, 9]) (by kernel_rfl) (by simp) ?_
              refine AllReadyH.cons rfl (fun K hK => ?_) ?_
              · skip
                go_simp
                go_at_call 18
                refine (K1.out _ ?_).mono ?_
                assumption
                rintro e v20 ⟨⟨s8, A8, n8, c8, s9, A9, n9, c9, rfl, hr8⟩, hk, hc⟩
                have HR8_20 := Lib.hid (hr8.out.1)
                have HR9_20 := Lib.hid (hr8.out.2)
                have HB_20 := Lib.hid hk
                go_wp2_with fail
                have HX_20 := Lib.hid (bt HX_19.out HB_20.out)
                have HP_17_20 := Lib.hid (HP_17_19.out.new HB_20.out)
                refine hK.out _ _ (HS.out _ HX_20.out) (fun hHeld2 => ?_)
                clear hHeld
                have hHeld := hHeld2
                clear hHeld2 hK K hk HB_20 hc hr8 HX_19 HP_17_19
                try simp only [Act.put, List.getElem_toArray, List.getElem_cons_zero, List.getElem_cons_succ, List.setIfInBounds_toArray, List.set_cons_zero, List.set_cons_succ]
                refine wpAnyH_take (i := 6) (v := ?_) rfl (by kernel_rfl) (by kernel_rfl) (by kernel_rfl) (fun _ _ _ h => h) (Or.inl ⟨by kernel_rfl, ?_⟩) (by assumption) ?_
                rotate_left
                · intro w hSw
                  (try dsimp only at hSw)
                  go_simp
                  all_goals (with_reducible rfl)
                try simp only [Act.put, List.getElem_toArray, List.getElem_cons_zero, List.getElem_cons_succ, List.setIfInBounds_toArray, List.set_cons_zero, List.set_cons_succ]
                refine wpAnyH_take (i := 7) (v := ?_) rfl (by kernel_rfl) (by kernel_rfl) (by kernel_rfl) (fun _ _ _ h => h) (Or.inl ⟨by kernel_rfl, ?_⟩) (by assumption) ?_
                rotate_left
                · intro w hSw
                  (try dsimp only at hSw)
                  go_simp
                  all_goals (with_reducible rfl)
                try simp only [Act.put, List.getElem_toArray, List.getElem_cons_zero, List.getElem_cons_succ, List.setIfInBounds_toArray, List.set_cons_zero, List.set_cons_succ]
                refine wpAnyH_take (i := 8) (v := ?_) rfl (by kernel_rfl) (by kernel_rfl) (by kernel_rfl) (fun _ _ _ h => h) (Or.inl ⟨by kernel_rfl, ?_⟩) (by assumption) ?_
                rotate_left
                · intro w hSw
                  (try dsimp only at hSw)
                  go_simp
                  all_goals (with_reducible rfl)
                try simp only [Act.put, List.getElem_toArray, List.getElem_cons_zero, List.getElem_cons_succ, List.setIfInBounds_toArray, List.set_cons_zero, List.set_cons_succ]
                refine wpAnyH_ready (rs := [9]) (by kernel_rfl) (by simp) ?_
                refine AllReadyH.cons rfl (fun K hK => ?_) AllReadyH.nil
                go_simp
                have HB_21 := Lib.hid ((Below.refl v20.heap.size v20).alloc (Nat.le_refl _) (.cells #[.bool false, .slice none 0 0] 24))
                have HP_16_21 := Lib.hid (P2.lit v20 24 (.bool false) (.slice none 0 0))
                obtain ⟨v21, hV⟩ : ∃ z, World.alloc v20 (.cells #[.bool false, .slice none 0 0] 24) = z := ⟨_, rfl⟩
                obtain ⟨g16, hg⟩ : ∃ z, v20.heap.size = z := ⟨_, rfl⟩
                rw [hV] at HB_21 HP_16_21  ⊢
                rw [hg] at HP_16_21  ⊢
                have HG_16 := Lib.hid (show x7.heap.size ≤ g16 by rw [← hg]; exact HX_20.out.size)
                have HN_17_16 := Lib.hid (show g17 ≠ g16 by have := HP_17_20.out.lt; rw [hg] at this; omega)
                have HX_21 := Lib.hid (bt HX_20.out HB_21.out)
                have HR8_21 := Lib.hid ((HR8_20.out).new HB_21.out)
                have HR9_21 := Lib.hid ((HR9_20.out).new HB_21.out)
                have HP_17_21 := Lib.hid (HP_17_20.out.new HB_21.out)
                refine hK.out _ _ (HS.out _ HX_21.out) (fun hHeld2 => ?_)
                clear hHeld
                have hHeld := hHeld2
                clear hHeld2 hK K hV hg HB_21 HX_20 HR8_20 HR9_20 HP_17_20
                try simp only [Act.put, List.getElem_toArray, List.getElem_cons_zero, List.getElem_cons_succ, List.setIfInBounds_toArray, List.set_cons_zero, List.set_cons_succ]
                refine wpAnyH_ready (rs := [11]) (by kernel_rfl) (by simp) ?_
                refine AllReadyH.cons rfl (fun K hK => ?_) AllReadyH.nil
                obtain ⟨z0, z1⟩ := HP_16_21.out.cells
                have y0 := HP_16_21.out.frozen 0
                have y1 := HP_16_21.out.frozen 1
                have z9 := HP_16_21.out.lt
                go_simp
                obtain ⟨v22, hV⟩ : ∃ z, World.setCell (World.setCell v21 ⟨g16, 0, none⟩ (.bool s8)) ⟨g16, 1, none⟩ (.slice A8 n8 c8) = z := ⟨_, rfl⟩
                rw [hV]
                have HX_22 := Lib.hid (show Below x7.heap.size x7 v22 by rw [← hV]; exact below_box HX_21.out (HG_16.out) _ _)
                have HR8_22 := Lib.hid (show RN v22 s8 A8 n8 c8 (Q) by rw [← hV]; exact (HR8_21.out).boxN HP_16_21.out (.bool s8) (.slice A8 n8 c8))
                have HR9_22 := Lib.hid (show RN v22 s9 A9 n9 c9 (R) by rw [← hV]; exact (HR9_21.out).boxN HP_16_21.out (.bool s8) (.slice A8 n8 c8))
                have HP_17_22 := Lib.hid (show P2 24 v22 g17 (.bool false) (.slice none 0 0) by rw [← hV]; exact HP_17_21.out.far2 (show g17 ≠ g16 from HN_17_16.out) (.bool s8) (.slice A8 n8 c8))
                have HP_16_22 := Lib.hid (show P2 24 v22 g16 (.bool s8) (.slice A8 n8 c8) by rw [← hV]; exact HP_16_21.out.all (.bool s8) (.slice A8 n8 c8))
                refine hK.out _ _ (HS.out _ HX_22.out) (fun hHeld2 => ?_)
                clear hHeld
                have hHeld := hHeld2
                clear hHeld2 hK K hV z9 z0 z1 y0 y1 HX_21 HR8_21 HR9_21 HP_17_21 HP_16_21
                try simp only [Act.put, List.getElem_toArray, List.getElem_cons_zero, List.getElem_cons_succ, List.setIfInBounds_toArray, List.set_cons_zero, List.set_cons_succ]
                refine wpAnyH_ready (rs := [12]) (by kernel_rfl) (by simp) ?_
                refine AllReadyH.cons rfl (fun K hK => ?_) AllReadyH.nil
                obtain ⟨z0, z1⟩ := HP_17_22.out.cells
                have y0 := HP_17_22.out.frozen 0
                have y1 := HP_17_22.out.frozen 1
                have z9 := HP_17_22.out.lt
                go_simp
                obtain ⟨v23, hV⟩ : ∃ z, World.setCell (World.setCell v22 ⟨g17, 0, none⟩ (.bool s9)) ⟨g17, 1, none⟩ (.slice A9 n9 c9) = z := ⟨_, rfl⟩
                rw [hV]
                have HX_23 := Lib.hid (show Below x7.heap.size x7 v23 by rw [← hV]; exact below_box HX_22.out (HG_17.out) _ _)
                have HR8_23 := Lib.hid (show RN v23 s8 A8 n8 c8 (Q) by rw [← hV]; exact (HR8_22.out).boxN HP_17_22.out (.bool s9) (.slice A9 n9 c9))
                have HR9_23 := Lib.hid (show RN v23 s9 A9 n9 c9 (R) by rw [← hV]; exact (HR9_22.out).boxN HP_17_22.out (.bool s9) (.slice A9 n9 c9))
                have HP_16_23 := Lib.hid (show P2 24 v23 g16 (.bool s8) (.slice A8 n8 c8) by rw [← hV]; exact HP_16_22.out.far2 (show g16 ≠ g17 from HN_17_16.out.symm) (.bool s9) (.slice A9 n9 c9))
                have HP_17_23 := Lib.hid (show P2 24 v23 g17 (.bool s9) (.slice A9 n9 c9) by rw [← hV]; exact HP_17_22.out.all (.bool s9) (.slice A9 n9 c9))
                refine hK.out _ _ (HS.out _ HX_23.out) (fun hHeld2 => ?_)
                clear hHeld
                have hHeld := hHeld2
                clear hHeld2 hK K hV z9 z0 z1 y0 y1 HX_22 HR8_22 HR9_22 HP_16_22 HP_17_22
                try simp only [Act.put, List.getElem_toArray, List.getElem_cons_zero, List.getElem_cons_succ, List.setIfInBounds_toArray, List.set_cons_zero, List.set_cons_succ]
                refine wpAnyH_done (by kernel_rfl) ?_ _
                clear hHeld
                go_wp2_with fail
                go_meet
                exact ⟨g16, g17, s8, A8, n8, c8, s9, A9, n9, c9, rfl, rfl, HP_16_23.out, HP_17_23.out, HR8_23.out, HR9_23.out, HX_23.out⟩
              refine AllReadyH.cons rfl (fun K hK => ?_) AllReadyH.nil
              · skip
                go_simp
                have HB_24 := Lib.hid ((Below.refl v19.heap.size v19).alloc (Nat.le_refl _) (.cells #[.bool false, .slice none 0 0] 24))
                have HP_16_24 := Lib.hid (P2.lit v19 24 (.bool false) (.slice none 0 0))
                obtain ⟨v24, hV⟩ : ∃ z, World.alloc v19 (.cells #[.bool false, .slice none 0 0] 24) = z := ⟨_, rfl⟩
                obtain ⟨g16, hg⟩ : ∃ z, v19.heap.size = z := ⟨_, rfl⟩
                rw [hV] at HB_24 HP_16_24  ⊢
                rw [hg] at HP_16_24  ⊢
                have HG_16 := Lib.hid (show x7.heap.size ≤ g16 by rw [← hg]; exact HX_19.out.size)
                have HN_17_16 := Lib.hid (show g17 ≠ g16 by have := HP_17_19.out.lt; rw [hg] at this; omega)
                have HX_24 := Lib.hid (bt HX_19.out HB_24.out)
                have HP_17_24 := Lib.hid (HP_17_19.out.new HB_24.out)
                refine hK.out _ _ (HS.out _ HX_24.out) (fun hHeld2 => ?_)
                clear hHeld
                have hHeld := hHeld2
                clear hHeld2 hK K hV hg HB_24 HX_19 HP_17_19
                try simp only [Act.put, List.getElem_toArray, List.getElem_cons_zero, List.getElem_cons_succ, List.setIfInBounds_toArray, List.set_cons_zero, List.set_cons_succ]
                refine wpAnyH_ready (rs := [5]) (by kernel_rfl) (by simp) ?_
                refine AllReadyH.cons rfl (fun K hK => ?_) AllReadyH.nil
                go_simp
                go_at_call 18
                refine (K1.out _ ?_).mono ?_
                assumption
                rintro e v25 ⟨⟨s8, A8, n8, c8, s9, A9, n9, c9, rfl, hr8⟩, hk, hc⟩
                have HR8_25 := Lib.hid (hr8.out.1)
                have HR9_25 := Lib.hid (hr8.out.2)
                have HB_25 := Lib.hid hk
                go_wp2_with fail
                have HX_25 := Lib.hid (bt HX_24.out HB_25.out)
                have HP_17_25 := Lib.hid (HP_17_24.out.new HB_25.out)
                have HP_16_25 := Lib.hid (HP_16_24.out.new HB_25.out)
                refine hK.out _ _ (HS.out _ HX_25.out) (fun hHeld2 => ?_)
                clear hHeld
                have hHeld := hHeld2
                clear hHeld2 hK K hk HB_25 hc hr8 HX_24 HP_17_24 HP_16_24
                try simp only [Act.put, List.getElem_toArray, List.getElem_cons_zero, List.getElem_cons_succ, List.setIfInBounds_toArray, List.set_cons_zero, List.set_cons_succ]
                refine wpAnyH_take (i := 6) (v := ?_) rfl (by kernel_rfl) (by kernel_rfl) (by kernel_rfl) (fun _ _ _ h => h) (Or.inl ⟨by kernel_rfl, ?_⟩) (by assumption) ?_
                rotate_left
                · intro w hSw
                  (try dsimp only at hSw)
                  go_simp
                  all_goals (with_reducible rfl)
                try simp only [Act.put, List.getElem_toArray, List.getElem_cons_zero, List.getElem_cons_succ, List.setIfInBounds_toArray, List.set_cons_zero, List.set_cons_succ]
                refine wpAnyH_take (i := 7) (v := ?_) rfl (by kernel_rfl) (by kernel_rfl) (by kernel_rfl) (fun _ _ _ h => h) (Or.inl ⟨by kernel_rfl, ?_⟩) (by assumption) ?_
                rotate_left
                · intro w hSw
                  (try dsimp only at hSw)
                  go_simp
                  all_goals (with_reducible rfl)
                try simp only [Act.put, List.getElem_toArray, List.getElem_cons_zero, List.getElem_cons_succ, List.setIfInBounds_toArray, List.set_cons_zero, List.set_cons_succ]
                refine wpAnyH_take (i := 8) (v := ?_) rfl (by kernel_rfl) (by kernel_rfl) (by kernel_rfl) (fun _ _ _ h => h) (Or.inl ⟨by kernel_rfl, ?_⟩) (by assumption) ?_
                rotate_left
                · intro w hSw
                  (try dsimp only at hSw)
                  go_simp
                  all_goals (with_reducible rfl)
                try simp only [Act.put, List.getElem_toArray, List.getElem_cons_zero, List.getElem_cons_succ, List.setIfInBounds_toArray, List.set_cons_zero, List.set_cons_succ]
                refine wpAnyH_ready (rs := [11]) (by kernel_rfl) (by simp) ?_
                refine AllReadyH.cons rfl (fun K hK => ?_) AllReadyH.nil
                obtain ⟨z0, z1⟩ := HP_16_25.out.cells
                have y0 := HP_16_25.out.frozen 0
                have y1 := HP_16_25.out.frozen 1
                have z9 := HP_16_25.out.lt
                go_simp
                obtain ⟨v26, hV⟩ : ∃ z, World.setCell (World.setCell v25 ⟨g16, 0, none⟩ (.bool s8)) ⟨g16, 1, none⟩ (.slice A8 n8 c8) = z := ⟨_, rfl⟩
                rw [hV]
                have HX_26 := Lib.hid (show Below x7.heap.size x7 v26 by rw [← hV]; exact below_box HX_25.out (HG_16.out) _ _)
                have HR8_26 := Lib.hid (show RN v26 s8 A8 n8 c8 (Q) by rw [← hV]; exact (HR8_25.out).boxN HP_16_25.out (.bool s8) (.slice A8 n8 c8))
                have HR9_26 := Lib.hid (show RN v26 s9 A9 n9 c9 (R) by rw [← hV]; exact (HR9_25.out).boxN HP_16_25.out (.bool s8) (.slice A8 n8 c8))
                have HP_17_26 := Lib.hid (show P2 24 v26 g17 (.bool false) (.slice none 0 0) by rw [← hV]; exact HP_17_25.out.far2 (show g17 ≠ g16 from HN_17_16.out) (.bool s8) (.slice A8 n8 c8))
                have HP_16_26 := Lib.hid (show P2 24 v26 g16 (.bool s8) (.slice A8 n8 c8) by rw [← hV]; exact HP_16_25.out.all (.bool s8) (.slice A8 n8 c8))
                refine hK.out _ _ (HS.out _ HX_26.out) (fun hHeld2 => ?_)
                clear hHeld
                have hHeld := hHeld2
                clear hHeld2 hK K hV z9 z0 z1 y0 y1 HX_25 HR8_25 HR9_25 HP_17_25 HP_16_25
                try simp only [Act.put, List.getElem_toArray, List.getElem_cons_zero, List.getElem_cons_succ, List.setIfInBounds_toArray, List.set_cons_zero, List.set_cons_succ]
                refine wpAnyH_ready (rs := [12]) (by kernel_rfl) (by simp) ?_
                refine AllReadyH.cons rfl (fun K hK => ?_) AllReadyH.nil
                obtain ⟨z0, z1⟩ := HP_17_26.out.cells
                have y0 := HP_17_26.out.frozen 0
                have y1 := HP_17_26.out.frozen 1
                have z9 := HP_17_26.out.lt
                go_simp
                obtain ⟨v27, hV⟩ : ∃ z, World.setCell (World.setCell v26 ⟨g17, 0, none⟩ (.bool s9)) ⟨g17, 1, none⟩ (.slice A9 n9 c9) = z := ⟨_, rfl⟩
                rw [hV]
                have HX_27 := Lib.hid (show Below x7.heap.size x7 v27 by rw [← hV]; exact below_box HX_26.out (HG_17.out) _ _)
                have HR8_27 := Lib.hid (show RN v27 s8 A8 n8 c8 (Q) by rw [← hV]; exact (HR8_26.out).boxN HP_17_26.out (.bool s9) (.slice A9 n9 c9))
                have HR9_27 := Lib.hid (show RN v27 s9 A9 n9 c9 (R) by rw [← hV]; exact (HR9_26.out).boxN HP_17_26.out (.bool s9) (.slice A9 n9 c9))
                have HP_16_27 := Lib.hid (show P2 24 v27 g16 (.bool s8) (.slice A8 n8 c8) by rw [← hV]; exact HP_16_26.out.far2 (show g16 ≠ g17 from HN_17_16.out.symm) (.bool s9) (.slice A9 n9 c9))
                have HP_17_27 := Lib.hid (show P2 24 v27 g17 (.bool s9) (.slice A9 n9 c9) by rw [← hV]; exact HP_17_26.out.all (.bool s9) (.slice A9 n9 c9))
                refine hK.out _ _ (HS.out _ HX_27.out) (fun hHeld2 => ?_)
                clear hHeld
                have hHeld := hHeld2
                clear hHeld2 hK K hV z9 z0 z1 y0 y1 HX_26 HR8_26 HR9_26 HP_16_26 HP_17_26
                try simp only [Act.put, List.getElem_toArray, List.getElem_cons_zero, List.getElem_cons_succ, List.setIfInBounds_toArray, List.set_cons_zero, List.set_cons_succ]
                refine wpAnyH_done (by kernel_rfl) ?_ _
                clear hHeld
                go_wp2_with fail
                go_meet
                exact ⟨g16, g17, s8, A8, n8, c8, s9, A9, n9, c9, rfl, rfl, HP_16_27.out, HP_17_27.out, HR8_27.out, HR9_27.out, HX_27.out⟩
          case rest =>
            obtain ⟨G, H, s8, A8, n8, c8, s9, A9, n9, c9, rfl, rfl, hg, hh, hr8, hr9, hb8⟩ := hcut
            have HB8 := Lib.hid hb8
            obtain ⟨x8, rfl⟩ := nm_world HB8.out
            have HQG := Lib.hid hg
            have HQH := Lib.hid hh
            have HR8 := Lib.hid hr8
            have HR9 := Lib.hid hr9
            have hl8 : n8 ≤ 730 := B2.rlen hr8 HQB.out
            have hl9 : n9 ≤ 730 := B2.rlen hr9 HRB.out
            obtain ⟨g0, g1⟩ := HQG.out.cells
            obtain ⟨f0, f1⟩ := (HQ7.out.new HB8.out).cells
            clear hg hh hr8 hr9 hb8
            go_wp2_with fail
            refine (equal_any Q Q s7 s8 A7 A8 n7 c7 n8 c8 x8 (PIo.new HR7.out HB8.out) HR8.out (by omega) (by omega)).mono ?_
            rw [eqB_self]
            rintro e w9 ⟨rfl, hb9⟩
            have HB9 := Lib.hid hb9
            have HB79 := Lib.hid (bt HB8.out hb9)
            clear hb9 g0 g1 f0 f1
            obtain ⟨g0, g1⟩ := (HQH.out.new HB9.out).cells
            obtain ⟨f0, f1⟩ := (HQ7r.out.new HB79.out).cells
            go_wp2_with fail
            refine (equal_any R R s7r s9 A7r A9 n7r c7r n9 c9 w9 (PIo.new HR7r.out HB79.out) (HR9.out.new HB9.out) (by omega) (by omega)).mono ?_
            rw [eqB_self]
            rintro e w10 ⟨rfl, hb10⟩
            have HB10 := Lib.hid (bt HB7.out (bt HB79.out hb10))
            clear hb10 g0 g1 f0 f1
            go_wp2
            go_roundg (gk - 1)
            case measure => omega
            case rel => exact ⟨i + 1, by omega, by go_num, HQ26.out.new HB10.out, HR26.out.new HB10.out, HQ46.out.new HB10.out, PIo.new HR46.out HB10.out, HE6.out.new HB10.out, bt HB06.out HB10.out⟩
      · obtain rfl : i = 3 := by omega
        go_wp2_with fail
        refine (lives_any wr).mono ?_
        rintro e w5 ⟨rfl, hb5⟩
        have HB5 := Lib.hid (bt HBB.out hb5)
        clear hb5
        go_wp2
        go_ret
        exact ⟨rfl, HB5.out⟩
theorem wideQuotients_law (a0 : Option Addr) (len0 cap0 : Nat) (z0 : List Int) (a1 : Int) (w : World) (w0 : RowI .i64 w a0 len0 cap0 z0) (w1 : (Lit.int .i64 a1).wf = true) :
    Calls Try.prog 3 #[.slice a0 len0 cap0, .int .i64 a1] w fun e w' => e = .returned (.bool true) ∧ Below w.heap.size w w' := by
  obtain ⟨ls, h1, h2, h3, h4⟩ := w0.open_
  exact wideQuotients_walk ls a0 len0 cap0 a1 w ⟨h4, by rw [h1]; exact h2, h3⟩ w1
end Go.Proofs.Ytlhccfmbfdaboaa
