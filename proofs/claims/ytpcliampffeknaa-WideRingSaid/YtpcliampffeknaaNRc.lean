/- Contracts of the reference: powers of two. -/
import Derived.Test.YtpcliampffeknaaNRb
namespace Go.Proofs.Ytpcliampffeknaa
open Go.RowKit
attribute [local go_sem ↓] Go.wp_at_zero Go.wp_at_succ
theorem len_two {v m : Nat} (h : v < 2 ^ m) : (digs 10000 v).length ≤ m := digs_len_le (by decide) (Nat.lt_of_lt_of_le h (Nat.pow_le_pow_left (by decide) m))
theorem rn_len {w : World} {s : Bool} {A : Option Addr} {n c m : Nat} {x : Int} (h : RN w s A n c x) (hx : x.natAbs < 2 ^ m) : n ≤ m := by
  rw [← h.2.1]
  exact len_two hx
/-- The state of the loop of Power. -/
def PowInv (k q P Q : Nat) : Prop := P * Q ^ q = 2 ^ k ∧ 0 < P ∧ 0 < Q ∧ Q ≤ 2 ^ (2 * k + 1)
theorem PowInv.start (k : Nat) : PowInv k k 1 2 := ⟨by rw [Nat.one_mul], by decide, by decide, by
  rw [Nat.pow_succ]
  have : 0 < 2 ^ (2 * k) := Nat.pow_pos (by decide)
  omega⟩
theorem PowInv.le {k q P Q : Nat} (h : PowInv k q P Q) : P ≤ 2 ^ k ∧ (0 < q → Q ≤ 2 ^ k) := by
  obtain ⟨h1, h2, h3, _⟩ := h
  have hp : 0 < Q ^ q := Nat.pow_pos h3
  refine ⟨?_, fun hq => ?_⟩
  · rw [← h1]; exact Nat.le_mul_of_pos_right _ hp
  · rw [← h1]
    obtain ⟨r, rfl⟩ : ∃ r, q = r + 1 := ⟨q - 1, by omega⟩
    rw [Nat.pow_succ]
    calc Q ≤ Q ^ r * Q := Nat.le_mul_of_pos_left _ (Nat.pow_pos h3)
      _ ≤ P * (Q ^ r * Q) := Nat.le_mul_of_pos_left _ h2
theorem PowInv.sq {k q P Q : Nat} (h : PowInv k q P Q) (hq : 0 < q) : Q * Q ≤ 2 ^ (2 * k + 1) := by
  have h1 := h.le.2 hq
  have h2 : Q * Q ≤ 2 ^ k * 2 ^ k := Nat.mul_le_mul h1 h1
  rw [← Nat.pow_add] at h2
  exact Nat.le_trans h2 (Nat.pow_le_pow_right (by decide) (by omega))
theorem PowInv.odd {k q P Q : Nat} (h : PowInv k q P Q) (hq : q % 2 = 1) : PowInv k (q / 2) (P * Q) (Q * Q) := by
  have hs := h.sq (by omega)
  obtain ⟨h1, h2, h3, _⟩ := h
  refine ⟨?_, Nat.mul_pos h2 h3, Nat.mul_pos h3 h3, hs⟩
  rw [← h1, ← Nat.pow_two, ← Nat.pow_mul, Nat.mul_assoc, ← Nat.pow_succ', show (2 * (q / 2)).succ = q by omega]
theorem PowInv.even {k q P Q : Nat} (h : PowInv k q P Q) (hq0 : 0 < q) (hq : q % 2 = 0) : PowInv k (q / 2) P (Q * Q) := by
  have hs := h.sq hq0
  obtain ⟨h1, h2, h3, _⟩ := h
  refine ⟨?_, h2, Nat.mul_pos h3 h3, hs⟩
  rw [← h1, ← Nat.pow_two, ← Nat.pow_mul, show 2 * (q / 2) = q by omega]
theorem RNo.box {ok : Nat → Prop} {w : World} {s : Bool} {A : Option Addr} {n c : Nat} {x : Int} {t : TypeId} {B : Nat} {z0 z1 : Value} (h : RNo ok w s A n c x) (hp : P2 t w B z0 z1) (h0 : isI z0 = false) (h1 : isI z1 = false) (u0 u1 : Value) : RNo ok ((w.setCell ⟨B, 0, none⟩ u0).setCell ⟨B, 1, none⟩ u1) s A n c x := ⟨h.1, h.2.1, h.2.2.box hp h0 h1 u0 u1⟩
theorem PowInv.lens {k q P Q : Nat} (h : PowInv k q P Q) {w : World} {s s' : Bool} {A A' : Option Addr} {n c n' c' : Nat} (h1 : RN w s A n c (P : Int)) (h2 : RN w s' A' n' c' (Q : Int)) : n ≤ k + 1 ∧ n' ≤ 2 * k + 2 := by
  refine ⟨rn_len h1 ?_, rn_len h2 ?_⟩
  · have h3 := h.le.1
    have h4 : 2 ^ k < 2 ^ (k + 1) := Nat.pow_lt_pow_right (by decide) (by omega)
    rw [Int.natAbs_natCast]
    omega
  · have h3 := h.2.2.2
    have h4 : 2 ^ (2 * k + 1) < 2 ^ (2 * k + 2) := Nat.pow_lt_pow_right (by decide) (by omega)
    rw [Int.natAbs_natCast]
    omega
set_option maxRecDepth 100000 in
set_option maxHeartbeats 3200000 in
theorem power_any (k : Nat) (w : World) (hk : k ≤ 20000) :
    Calls Try.prog 44 #[.int .i64 (k : Int)] w (RetN ((2 ^ k : Nat) : Int) w) := by
  obtain ⟨W, hW⟩ : ∃ W, w.alloc (.cells #[.bool false, .slice none 0 0] 25) = W := ⟨_, rfl⟩
  have HK := Lib.hid (show Below w.heap.size w W by rw [← hW]; exact (Below.refl _ w).alloc (Nat.le_refl _) _)
  have HP := Lib.hid (show P2 25 W w.heap.size (.bool false) (.slice none 0 0) by rw [← hW]; exact P2.lit _ _ _ _)
  have HP0 := HP.out.lt
  have HI0 := Lib.hid (PowInv.start k)
  go_enter Try.func44, Try.ntmps44
  go_wp2_with fail
  refine (of_any 1 W (by decide)).mono ?_
  rintro e w1 ⟨s1, A1, n1, c1, rfl, hr1, hb1⟩
  obtain ⟨x1, hx1⟩ : ∃ x, w1.alloc (.cells #[.bool s1, .slice A1 n1 c1] 25) = x := ⟨_, rfl⟩
  have HB1 := Lib.hid (show Below W.heap.size W x1 by rw [← hx1]; exact hb1.alloc hb1.size _)
  have HQ1 := Lib.hid (show P2 25 x1 w1.heap.size (.bool s1) (.slice A1 n1 c1) by rw [← hx1]; exact P2.lit _ _ _ _)
  have HR1 := Lib.hid (show RN x1 s1 A1 n1 c1 1 by rw [← hx1]; exact hr1.new ((Below.refl _ _).alloc (Nat.le_refl _) _))
  have HG1 := Lib.hid (show w.heap.size < w1.heap.size by have := hb1.size; omega)
  clear hb1 hr1 hW
  go_wp2_with fail
  refine (of_any 2 x1 (by decide)).mono ?_
  rintro e w2 ⟨s2, A2, n2, c2, rfl, hr2, hb2⟩
  obtain ⟨x2, hx2⟩ : ∃ x, w2.alloc (.cells #[.bool s2, .slice A2 n2 c2] 25) = x := ⟨_, rfl⟩
  have hbb : Below x1.heap.size x1 x2 := by rw [← hx2]; exact hb2.alloc hb2.size _
  have HB2 := Lib.hid (bt HB1.out hbb)
  have HQ2 := Lib.hid (show P2 25 x2 w2.heap.size (.bool s2) (.slice A2 n2 c2) by rw [← hx2]; exact P2.lit _ _ _ _)
  have HR2 := Lib.hid (show RN x2 s2 A2 n2 c2 2 by rw [← hx2]; exact hr2.new ((Below.refl _ _).alloc (Nat.le_refl _) _))
  have HR1' := Lib.hid (HR1.out.new hbb)
  have HQ1' := Lib.hid (HQ1.out.new hbb)
  have HG2 := Lib.hid (show w1.heap.size < w2.heap.size by have := hb2.size; have := HQ1.out.lt; omega)
  clear hb2 hr2 hbb hx1 HR1 HQ1
  obtain ⟨g1, hg1⟩ : ∃ g, w1.heap.size = g := ⟨_, rfl⟩
  obtain ⟨g2, hg2⟩ : ∃ g, w2.heap.size = g := ⟨_, rfl⟩
  rw [hg1] at HQ1' HG1 HG2
  rw [hg2] at HQ2 HG2
  have hgg1 := HG1.out
  have hgg2 := HG2.out
  go_wp2_with fail
  clear hg1 hg2 hx2
  go_loopw [0] (fun v wr => ∃ (q P Q : Nat) (s s' : Bool) (A A' : Option Addr) (n c n' c' : Nat), v = .int .i64 (q : Int) ∧ q ≤ k ∧ PowInv k q P Q ∧ P2 25 wr w.heap.size (.bool false) (.slice none 0 0) ∧ P2 25 wr g1 (.bool s) (.slice A n c) ∧ P2 25 wr g2 (.bool s') (.slice A' n' c') ∧ RN wr s A n c (P : Int) ∧ RN wr s' A' n' c' (Q : Int) ∧ Below w.heap.size w wr) (fun v _ => (intOf v).toNat)
  case atStart => exact ⟨k, 1, 2, s1, s2, A1, A2, n1, c1, n2, c2, rfl, Nat.le_refl _, HI0.out, HP.out.new HB2.out, HQ1'.out, HQ2.out, HR1'.out, HR2.out, bt HK.out HB2.out⟩
  case round =>
    obtain ⟨q, P, Q, s, s', A, A', n, c, n', c', rfl, hq, hinv, hp0, hp1, hp2, hr1, hr2, hbel⟩ := hrel
    obtain ⟨hn, hn'⟩ := hinv.lens hr1 hr2
    have HINV := Lib.hid hinv
    have H0 := Lib.hid hp0
    have H1 := Lib.hid hp1
    have H2 := Lib.hid hp2
    have HR1 := Lib.hid hr1
    have HR2 := Lib.hid hr2
    have HB := Lib.hid hbel
    obtain ⟨a0, a1⟩ := hp1.cells
    obtain ⟨b0, b1⟩ := hp2.cells
    clear hinv hp0 hp1 hp2 hr1 hr2 hbel
    rcases Nat.eq_zero_or_pos q with h0 | h0
    · subst h0
      have HPE := Lib.hid (show P = 2 ^ k by have := HINV.out.1; rwa [Nat.pow_zero, Nat.mul_one] at this)
      obtain ⟨z0, z1⟩ := H0.out.cells
      have f0 := H0.out.frozen 0
      have f1 := H0.out.frozen 1
      go_wp2_with fail
      refine bodyPost_ret (results_cell_row rfl _ _ _ _ _ _ _ rfl (H0.out.all (.bool s) (.slice A n c)) Try.underlying25 rfl N_size) rfl ?_
      rw [← HPE.out]
      exact RNo.stored HR1.out H0.out rfl rfl HB.out (Nat.le_refl _) _ _
    · obtain ⟨z, hz⟩ : ∃ z : Int, (q : Int) = z := ⟨_, rfl⟩
      rw [hz]
      have hz1 : 0 < z := by omega
      have hz2 : z ≤ 20000 := by omega
      have HZ := Lib.hid hz
      clear hz
      rcases Nat.mod_two_eq_zero_or_one q with hm | hm
      · have HN := Lib.hid (HINV.out.even h0 hm)
        have hzm : z % 2 = 0 := by have := HZ.out; omega
        go_wp2_with fail
        refine (mul_any (Q : Int) (Q : Int) s' s' A' A' n' c' n' c' wr HR2.out HR2.out (by omega) (by omega)).mono ?_
        rintro e w5 ⟨s5, A5, n5, c5, rfl, hr5, hb5⟩
        rw [← Int.natCast_mul] at hr5
        have HR5 := Lib.hid hr5
        have HB5 := Lib.hid (HB.out.trans (hb5.mono HB.out.size))
        have H05 := Lib.hid (H0.out.new hb5)
        have H15 := Lib.hid (H1.out.new hb5)
        have H25 := Lib.hid (H2.out.new hb5)
        have HR15 := Lib.hid (HR1.out.new hb5)
        clear hr5 hb5 a0 a1 b0 b1
        obtain ⟨b50, b51⟩ := H25.out.cells
        have f0 := H25.out.frozen 0
        have f1 := H25.out.frozen 1
        go_wp2_with fail
        go_roundw
        case rel => exact ⟨q / 2, P, Q * Q, s, s5, A, A5, n, c, n5, c5, by have := HZ.out; exact congrArg _ (by omega), by omega, HN.out, H05.out.far2 (by omega) _ _, H15.out.far2 (by omega) _ _, H25.out.all _ _, HR15.out.box H25.out rfl rfl _ _, HR5.out.box H25.out rfl rfl _ _, below_box HB5.out (by omega) _ _⟩
        case measure => simp [intOf]; omega
      · have HN := Lib.hid (HINV.out.odd hm)
        have hzm : z % 2 = 1 := by have := HZ.out; omega
        go_wp2_with fail
        refine (mul_any (P : Int) (Q : Int) s s' A A' n c n' c' wr HR1.out HR2.out (by omega) (by omega)).mono ?_
        rintro e w5 ⟨s5, A5, n5, c5, rfl, hr5, hb5⟩
        rw [← Int.natCast_mul] at hr5
        have HR5 := Lib.hid hr5
        have HB5 := Lib.hid (HB.out.trans (hb5.mono HB.out.size))
        have H05 := Lib.hid (H0.out.new hb5)
        have H15 := Lib.hid (H1.out.new hb5)
        have H25 := Lib.hid (H2.out.new hb5)
        have HR25 := Lib.hid (HR2.out.new hb5)
        clear hr5 hb5 a0 a1 b0 b1
        obtain ⟨a50, a51⟩ := H15.out.cells
        have f0 := H15.out.frozen 0
        have f1 := H15.out.frozen 1
        obtain ⟨x5, hx5⟩ : ∃ x, (w5.setCell ⟨g1, 0, none⟩ (.bool s5)).setCell ⟨g1, 1, none⟩ (.slice A5 n5 c5) = x := ⟨_, rfl⟩
        have HB6 := Lib.hid (show Below w.heap.size w x5 by rw [← hx5]; exact below_box HB5.out (by omega) _ _)
        have H06 := Lib.hid (show P2 25 x5 w.heap.size (.bool false) (.slice none 0 0) by rw [← hx5]; exact H05.out.far2 (by omega) _ _)
        have H16 := Lib.hid (show P2 25 x5 g1 (.bool s5) (.slice A5 n5 c5) by rw [← hx5]; exact H15.out.all _ _)
        have H26 := Lib.hid (show P2 25 x5 g2 (.bool s') (.slice A' n' c') by rw [← hx5]; exact H25.out.far2 (by omega) _ _)
        have HR56 := Lib.hid (show RN x5 s5 A5 n5 c5 ((P * Q : Nat) : Int) by rw [← hx5]; exact HR5.out.box H15.out rfl rfl _ _)
        have HR26 := Lib.hid (show RN x5 s' A' n' c' (Q : Int) by rw [← hx5]; exact HR25.out.box H15.out rfl rfl _ _)
        obtain ⟨b60, b61⟩ := H26.out.cells
        go_wp2_with fail
        refine (mul_any (Q : Int) (Q : Int) s' s' A' A' n' c' n' c' x5 HR26.out HR26.out (by omega) (by omega)).mono ?_
        rintro e w7 ⟨s7, A7, n7, c7, rfl, hr7, hb7⟩
        rw [← Int.natCast_mul] at hr7
        have HR7 := Lib.hid hr7
        have HB7 := Lib.hid (HB6.out.trans (hb7.mono HB6.out.size))
        have H07 := Lib.hid (H06.out.new hb7)
        have H17 := Lib.hid (H16.out.new hb7)
        have H27 := Lib.hid (H26.out.new hb7)
        have HR57 := Lib.hid (HR56.out.new hb7)
        clear hr7 hb7 a50 a51 b60 b61 f0 f1 hx5
        obtain ⟨b70, b71⟩ := H27.out.cells
        have f0 := H27.out.frozen 0
        have f1 := H27.out.frozen 1
        go_wp2_with fail
        go_roundw
        case rel => exact ⟨q / 2, P * Q, Q * Q, s5, s7, A5, A7, n5, c5, n7, c7, by have := HZ.out; exact congrArg _ (by omega), by omega, HN.out, H07.out.far2 (by omega) _ _, H17.out.far2 (by omega) _ _, H27.out.all _ _, HR57.out.box H27.out rfl rfl _ _, HR7.out.box H27.out rfl rfl _ _, below_box HB7.out (by omega) _ _⟩
        case measure => simp [intOf]; omega
end Go.Proofs.Ytpcliampffeknaa
