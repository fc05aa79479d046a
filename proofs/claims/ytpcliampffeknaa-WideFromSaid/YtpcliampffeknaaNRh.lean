/- Contract of the reference's Small. -/
import Derived.Test.YtpcliampffeknaaNRg
namespace Go.Proofs.Ytpcliampffeknaa
open Go.RowKit
attribute [local go_sem ↓] Go.wp_at_zero Go.wp_at_succ
theorem cmpI_le {a b : Int} (h : a ≤ b) : cmpI a b ≤ 0 := by unfold cmpI; split <;> (try split) <;> omega
theorem cmpI_nl {a b : Int} (h : b ≤ a) : 0 ≤ cmpI a b := by unfold cmpI; split <;> (try split) <;> omega
theorem cmpI_more {a b : Int} (h : b < a) : cmpI a b = 1 := by unfold cmpI; rw [if_neg (by omega), if_pos h]
theorem sgn_dec (x : Int) : sgn (decide (x < 0)) x.natAbs = x := sgn_of x
set_option maxRecDepth 100000 in
set_option maxHeartbeats 3200000 in
theorem rsmall_any (x : Int) (s : Bool) (A : Option Addr) (n c : Nat) (w : World) (hx : RN w s A n c x) (hn : n ≤ 900000) :
    Calls Try.prog 24 #[.agg #[.bool s, .slice A n c]] w (RetS x w) := by
  obtain ⟨W, hW⟩ : ∃ W, w.alloc (.cells #[.bool s, .slice A n c] 25) = W := ⟨_, rfl⟩
  have HK := Lib.hid (show Below w.heap.size w W by rw [← hW]; exact (Below.refl _ w).alloc (Nat.le_refl _) _)
  have HP := Lib.hid (show P2 25 W w.heap.size (.bool s) (.slice A n c) by rw [← hW]; exact P2.lit _ _ _ _)
  have HX := Lib.hid (RNo.new hx HK.out)
  have HS := Lib.hid hx.1
  obtain ⟨a0, a1⟩ := HP.out.cells
  clear hx
  let S := fun w' : World => w'.cell? ⟨w.heap.size, 0, none⟩ = some (.bool s) ∧ w'.cell? ⟨w.heap.size, 1, none⟩ = some (.slice A n c) ∧ Below W.heap.size W w'
  have HSS : Hid (∀ w', Below W.heap.size W w' → S w') := Lib.hid (fun w' hb => ⟨(HP.out.new hb).cells.1, (HP.out.new hb).cells.2, hb⟩)
  obtain ⟨u, hu⟩ : ∃ u, cmpI x 9223372036854775807 = u := ⟨_, rfl⟩
  obtain ⟨v, hv⟩ : ∃ u, cmpI x (-9223372036854775808) = u := ⟨_, rfl⟩
  have HU := Lib.hid hu
  have HV := Lib.hid hv
  have K1 : Hid (∀ w', S w' → Calls Try.prog 21 #[.int .i64 9223372036854775807] w' fun e w'' => (∃ s A n c, e = .returned (.agg #[.bool s, .slice A n c]) ∧ Hid (RN w'' s A n c 9223372036854775807 ∧ n ≤ 100)) ∧ S w'') :=
    Lib.hid (fun w' h => (of_any 9223372036854775807 w' (by decide)).mono (fun e w'' ⟨s, A, n, c, he, hr, hb⟩ => ⟨⟨s, A, n, c, he, Lib.hid ⟨hr, by have := rn_len hr (m := 64) (by decide); omega⟩⟩, HSS.out _ (bt h.2.2 hb)⟩))
  have K2 : Hid (∀ w' s' A' n' c', S w' → Hid (RN w' s' A' n' c' 9223372036854775807 ∧ n' ≤ 100) → Calls Try.prog 32 #[.agg #[.bool s, .slice A n c], .agg #[.bool s', .slice A' n' c']] w' fun e w'' => e = .returned (.int .i64 u) ∧ S w'') :=
    Lib.hid (fun w' s' A' n' c' h hr => (rcompare_any x 9223372036854775807 s s' A A' n c n' c' w' (HX.out.new h.2.2) hr.out.1 (by omega) (by have := hr.out.2; omega)).mono (fun e w'' ⟨he, hb⟩ => ⟨by rw [he, HU.out], HSS.out _ (bt h.2.2 hb)⟩))
  have K3 : Hid (∀ w', S w' → Calls Try.prog 21 #[.int .i64 (-9223372036854775808)] w' fun e w'' => (∃ s A n c, e = .returned (.agg #[.bool s, .slice A n c]) ∧ Hid (RN w'' s A n c (-9223372036854775808) ∧ n ≤ 100)) ∧ S w'') :=
    Lib.hid (fun w' h => (of_any (-9223372036854775808) w' (by decide)).mono (fun e w'' ⟨s, A, n, c, he, hr, hb⟩ => ⟨⟨s, A, n, c, he, Lib.hid ⟨hr, by have := rn_len hr (m := 64) (by decide); omega⟩⟩, HSS.out _ (bt h.2.2 hb)⟩))
  have K4 : Hid (∀ w' s' A' n' c', S w' → Hid (RN w' s' A' n' c' (-9223372036854775808) ∧ n' ≤ 100) → Calls Try.prog 32 #[.agg #[.bool s, .slice A n c], .agg #[.bool s', .slice A' n' c']] w' fun e w'' => e = .returned (.int .i64 v) ∧ S w'') :=
    Lib.hid (fun w' s' A' n' c' h hr => (rcompare_any x (-9223372036854775808) s s' A A' n c n' c' w' (HX.out.new h.2.2) hr.out.1 (by omega) (by have := hr.out.2; omega)).mono (fun e w'' ⟨he, hb⟩ => ⟨by rw [he, HV.out], HSS.out _ (bt h.2.2 hb)⟩))
  have bR := HSS.out _ (Below.refl W.heap.size W).drew
  have hcase : (9223372036854775807 < x ∧ u = 1) ∨ (x < -9223372036854775808 ∧ u = -1 ∧ v = -1) ∨ ((-9223372036854775808 ≤ x ∧ x ≤ 9223372036854775807) ∧ u ≤ 0 ∧ 0 ≤ v) := by
    rcases Int.lt_or_le 9223372036854775807 x with h | h
    · exact .inl ⟨h, by rw [← hu, cmpI_more h]⟩
    · rcases Int.lt_or_le x (-9223372036854775808) with h2 | h2
      · exact .inr (.inl ⟨h2, by rw [← hu, cmpI_less (by omega)], by rw [← hv, cmpI_less h2]⟩)
      · exact .inr (.inr ⟨⟨h2, h⟩, by rw [← hu]; exact cmpI_le h, by rw [← hv]; exact cmpI_nl h2⟩)
  clear hu hv
  rcases hcase with ⟨hr, rfl⟩ | ⟨hr, rfl, rfl⟩ | ⟨⟨hr, hr'⟩, hu, hv⟩
  · have HF := Lib.hid (show isSm x = false ∧ smV x = 0 by
      have h : isSm x = false := decide_eq_false (by omega)
      exact ⟨h, by rw [smV, if_neg (by rw [h]; decide)]⟩)
    clear hr
    go_enter Try.func24, Try.ntmps24
    go_wp2_with fail
    have d0 : W.drew.cell? ⟨w.heap.size, 0, none⟩ = some (.bool s) := a0
    have d1 : W.drew.cell? ⟨w.heap.size, 1, none⟩ = some (.slice A n c) := a1
    go_region_with (first | (go_at_call_of 21 (9223372036854775807 : Int); refine (K1.out _ ?_).mono ?_; (first | assumption | exact bR); rintro e w7 ⟨⟨s7, A7, n7, c7, rfl, hr7⟩, hc7⟩; have g7 : w7.cell? ⟨w.heap.size, 0, none⟩ = some (.bool s) := hc7.1; have h7 : w7.cell? ⟨w.heap.size, 1, none⟩ = some (.slice A n c) := hc7.2.1) | (go_at_call 21; refine (K3.out _ ?_).mono ?_; (first | assumption | exact bR); rintro e w9 ⟨⟨s9, A9, n9, c9, rfl, hr9⟩, hc9⟩; have g9 : w9.cell? ⟨w.heap.size, 0, none⟩ = some (.bool s) := hc9.1; have h9 : w9.cell? ⟨w.heap.size, 1, none⟩ = some (.slice A n c) := hc9.2.1) | (go_at_call_of 32 s7; refine (K2.out _ s7 A7 n7 c7 ?_ hr7).mono ?_; (first | assumption | exact bR); rintro e w8 ⟨rfl, hc8⟩; have g8 : w8.cell? ⟨w.heap.size, 0, none⟩ = some (.bool s) := hc8.1; have h8 : w8.cell? ⟨w.heap.size, 1, none⟩ = some (.slice A n c) := hc8.2.1) | (go_at_call_of 32 s9; refine (K4.out _ s9 A9 n9 c9 ?_ hr9).mono ?_; (first | assumption | exact bR); rintro e w10 ⟨rfl, hc10⟩; have g10 : w10.cell? ⟨w.heap.size, 0, none⟩ = some (.bool s) := hc10.1; have h10 : w10.cell? ⟨w.heap.size, 1, none⟩ = some (.slice A n c) := hc10.2.1))
    all_goals
      have HL := Lib.hid (bt HK.out (by first | exact hc9.2.2 | exact hc8.2.2))
      go_wp2
      go_ret2
      exact ⟨by rw [HF.out.1, HF.out.2]; rfl, HL.out⟩
  · have HF := Lib.hid (show isSm x = false ∧ smV x = 0 by
      have h : isSm x = false := decide_eq_false (by omega)
      exact ⟨h, by rw [smV, if_neg (by rw [h]; decide)]⟩)
    clear hr
    go_enter Try.func24, Try.ntmps24
    go_wp2_with fail
    go_region_held3 (fun w' => w'.cell? ⟨w.heap.size, 0, none⟩ = some (.bool s) ∧ w'.cell? ⟨w.heap.size, 1, none⟩ = some (.slice A n c) ∧ Below W.heap.size W w') (first | assumption | exact bR | go_keep)
      (first | (go_at_call_of 21 (9223372036854775807 : Int); refine (K1.out _ ?_).mono ?_; assumption; rintro e w7 ⟨⟨s7, A7, n7, c7, rfl, hr7⟩, hc7⟩) | (go_at_call 21; refine (K3.out _ ?_).mono ?_; assumption; rintro e w9 ⟨⟨s9, A9, n9, c9, rfl, hr9⟩, hc9⟩) | (go_at_call_of 32 s7; refine (K2.out _ s7 A7 n7 c7 ?_ hr7).mono ?_; assumption; rintro e w8 ⟨rfl, hc8⟩) | (go_at_call_of 32 s9; refine (K4.out _ s9 A9 n9 c9 ?_ hr9).mono ?_; assumption; rintro e w10 ⟨rfl, hc10⟩))
    all_goals
      rename_i hlast
      have HL := Lib.hid (bt HK.out hlast.2.2)
      clear hlast
      go_wp2
      go_ret2
      exact ⟨by rw [HF.out.1, HF.out.2]; rfl, HL.out⟩
  · have HF := Lib.hid (show isSm x = true ∧ smV x = x by
      have h : isSm x = true := decide_eq_true (by omega)
      exact ⟨h, by rw [smV, if_pos h]⟩)
    have hu1 : decide (0 < u) = false := decide_eq_false (by omega)
    have hv1 : decide (v < 0) = false := decide_eq_false (by omega)
    have HRX := Lib.hid (show x.natAbs ≤ 9223372036854775808 ∧ (0 ≤ x → x.natAbs ≤ 9223372036854775807) by omega)
    clear hr hr'
    go_enter Try.func24, Try.ntmps24
    go_wp2_with fail
    go_region_held3 (fun w' => w'.cell? ⟨w.heap.size, 0, none⟩ = some (.bool s) ∧ w'.cell? ⟨w.heap.size, 1, none⟩ = some (.slice A n c) ∧ Below W.heap.size W w') (first | assumption | exact bR | go_keep)
      (first | (go_at_call_of 21 (9223372036854775807 : Int); refine (K1.out _ ?_).mono ?_; assumption; rintro e w7 ⟨⟨s7, A7, n7, c7, rfl, hr7⟩, hc7⟩) | (go_at_call 21; refine (K3.out _ ?_).mono ?_; assumption; rintro e w9 ⟨⟨s9, A9, n9, c9, rfl, hr9⟩, hc9⟩) | (go_at_call_of 32 s7; refine (K2.out _ s7 A7 n7 c7 ?_ hr7).mono ?_; assumption; rintro e w8 ⟨rfl, hc8⟩) | (go_at_call_of 32 s9; refine (K4.out _ s9 A9 n9 c9 ?_ hr9).mono ?_; assumption; rintro e w10 ⟨rfl, hc10⟩))
    all_goals
      rename_i hlast
      have HL := Lib.hid hlast.2.2
      clear hlast
      obtain ⟨x5, rfl⟩ := nm_world HL.out
      have HP5 := Lib.hid (HP.out.new HL.out)
      have HLX5 := Lib.hid (HX.out.new HL.out).2.2
      have HB5 := Lib.hid (bt HK.out HL.out)
      have HN := Lib.hid HX.out.2.1
      obtain ⟨b0, b1⟩ := HP5.out.cells
      clear bR K1 K2 K3 K4 HSS
      have HVX := Lib.hid (val_digs (B := 10000) (by decide) x.natAbs)
      have HDG := Lib.hid (dig_digs (B := 10000) (by decide) x.natAbs)
      obtain ⟨D, hD⟩ : ∃ D, digs 10000 x.natAbs = D := ⟨_, rfl⟩
      rw [hD] at HLX5 HN HVX HDG
      clear hD
      go_wp2_with fail
      go_loopw [4, 5] (fun vn vi wr => ∃ i : Nat, i ≤ n ∧ vi = .int .i64 ((i : Int) - 1) ∧ vn = .int .i64 (sgn s (val 10000 (D.drop i))) ∧ P2 25 wr w.heap.size (.bool s) (.slice A n c) ∧ Below x5.heap.size x5 wr) (fun _ vi _ => (intOf vi + 1).toNat)
      case atStart => exact ⟨n, Nat.le_refl _, rfl, by rw [List.drop_of_length_le (by rw [HN.out]; exact Nat.le_refl _)]; cases s <;> rfl, HP5.out, Below.refl _ _⟩
      case round =>
        obtain ⟨i, hi, rfl, rfl, hq, hbel⟩ := hrel
        have HQ := Lib.hid hq
        have HBB := Lib.hid hbel
        obtain ⟨q0, q1⟩ := hq.cells
        clear hq hbel b0 b1
        rcases Nat.eq_zero_or_pos i with h0 | h0
        · subst h0
          have HF0 := Lib.hid (show sgn s (val 10000 (D.drop 0)) = x by rw [List.drop_zero, HVX.out, HS.out]; exact sgn_of x)
          go_wp2
          go_ret2
          refine ⟨?_, bt HB5.out HBB.out⟩
          rw [HF.out.1, HF.out.2, ← HF0.out]
          rfl
        · obtain ⟨j, rfl⟩ : ∃ j, i = j + 1 := ⟨i - 1, by omega⟩
          obtain ⟨b, off, rfl, hb, hc⟩ := (LO.new HLX5.out HBB.out).at_ (j := j) (by omega)
          have hd := dig_getD (B := 10000) (by decide) HDG.out j
          have HVD := Lib.hid (val_drop (B := 10000) D j)
          have HLE := Lib.hid (show val 10000 (D.drop j) ≤ x.natAbs by rw [← HVX.out]; have := val_take_add (B := 10000) D j; have h1 : val 10000 (D.drop j) ≤ 10000 ^ j * val 10000 (D.drop j) := Nat.le_mul_of_pos_left _ (Nat.pow_pos (by decide)); omega)
          obtain ⟨V, hV⟩ : ∃ V, val 10000 (D.drop (j + 1)) = V := ⟨_, rfl⟩
          obtain ⟨U, hU⟩ : ∃ V, val 10000 (D.drop j) = V := ⟨_, rfl⟩
          have HU2 := Lib.hid hU
          rw [hV, hU] at HVD
          rw [hU] at HLE
          rw [hV]
          obtain ⟨X, hX⟩ : ∃ X : Int, ((D.getD j 0 : Nat) : Int) = X := ⟨_, rfl⟩
          rw [hX] at hc
          have hvd := HVD.out
          have hle := HLE.out
          have hrx := HRX.out
          have hss := HS.out
          clear hV hU
          have hj0 : (0 : Int) ≤ (j : Int) := by omega
          have hjn : (j : Int) < (n : Int) := by omega
          have hidx : ((j + 1 : Nat) : Int) - 1 = (j : Int) := by omega
          rw [hidx]
          cases s
          · have hx0 : 0 ≤ x := by simpa using hss.symm
            have hu2 := hrx.2 hx0
            obtain ⟨M, hM⟩ : ∃ M : Int, (V : Int) = M := ⟨_, rfl⟩
            have e0 : sgn false V = M := hM
            have e1 : IntKind.i64.wrap (M * 10000) = M * 10000 := IntWalk.i64_in _ (by omega)
            obtain ⟨Y, hY⟩ : ∃ Y, M * 10000 + X = Y := ⟨_, rfl⟩
            have e2 : IntKind.i64.wrap Y = Y := IntWalk.i64_in _ (by omega)
            have HY := Lib.hid (show sgn false U = Y by show (U : Int) = Y; omega)
            rw [e0]
            clear hss hvd hle hrx hu2 hd hX hM e0
            go_wp2
            go_roundw
            case rel => exact ⟨j, by omega, by first | rfl | go_num, by rw [HU2.out, HY.out], HQ.out, HBB.out⟩
            case measure => first | (simp [intOf]; done) | (simp [intOf]; omega)
          · have hx0 : x < 0 := by simpa using hss.symm
            obtain ⟨M, hM⟩ : ∃ M : Int, -(V : Int) = M := ⟨_, rfl⟩
            have e0 : sgn true V = M := hM
            have e1 : IntKind.i64.wrap (M * 10000) = M * 10000 := IntWalk.i64_in _ (by omega)
            obtain ⟨Y, hY⟩ : ∃ Y, M * 10000 - X = Y := ⟨_, rfl⟩
            have e2 : IntKind.i64.wrap Y = Y := IntWalk.i64_in _ (by omega)
            have HY := Lib.hid (show sgn true U = Y by show -(U : Int) = Y; omega)
            rw [e0]
            clear hss hvd hle hrx hd hX hM e0
            go_wp2
            go_roundw
            case rel => exact ⟨j, by omega, by first | rfl | go_num, by rw [HU2.out, HY.out], HQ.out, HBB.out⟩
            case measure => first | (simp [intOf]; done) | (simp [intOf]; omega)
end Go.Proofs.Ytpcliampffeknaa
