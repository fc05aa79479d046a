/- Contracts of the program's points: nearest, Round. Conditions: as each statement has them. -/
import Derived.Test.YtfmccalkfagafaaYPF
namespace Go.Proofs.Ytfmccalkfagafaa
open Go.RowKit
attribute [local go_sem ↓] Go.wp_at_zero Go.wp_at_succ
/-- The nearest integer, the lesser one of two, within the limits. -/
def neV (p q : Int) : Int := max (-1073741825) (min 1073741825 (-((q - 2 * p) / (2 * q))))
def zC (_ _ : Int) : Int := 0
theorem ne_iff {p q n : Int} (hq : 0 < q) : 2 * p ≤ (2 * n + 1) * q ↔ -((q - 2 * p) / (2 * q)) ≤ n := by
  have h1 : (-n ≤ (q - 2 * p) / (2 * q)) ↔ -n * (2 * q) ≤ q - 2 * p := Int.le_ediv_iff_mul_le (by omega)
  have h2 : -n * (2 * q) = -(2 * (n * q)) := by rw [Int.neg_mul, Int.mul_left_comm]
  have h3 : (2 * n + 1) * q = 2 * (n * q) + q := by rw [Int.add_mul, Int.one_mul, Int.mul_assoc]
  rw [h3]
  rw [h2] at h1
  constructor
  · intro h
    have := h1.2 (by omega)
    omega
  · intro h
    have := h1.1 (by omega)
    omega
theorem ne_of {p q k : Int} (hq : 0 < q) (h : (0 ≤ k ∧ k ≤ 2147483650) ∧ (k = 0 ∨ neB p q (k - 1) = false) ∧ (k = 2147483650 ∨ neB p q k = true)) : k - 1073741825 = neV p q := by
  obtain ⟨⟨h0, h1⟩, h2, h3⟩ := h
  have e1 : neB p q (k - 1) = false → ¬ -((q - 2 * p) / (2 * q)) ≤ k - 1 - 1073741825 := fun h => by
    rw [← ne_iff hq]
    exact of_decide_eq_false h
  have e2 : neB p q k = true → -((q - 2 * p) / (2 * q)) ≤ k - 1073741825 := fun h => by
    rw [← ne_iff hq]
    exact of_decide_eq_true h
  unfold neV
  generalize -((q - 2 * p) / (2 * q)) = c at *
  rcases h2 with h2 | h2 <;> rcases h3 with h3 | h3
  · omega
  · have := e2 h3; omega
  · have := e1 h2; omega
  · have := e1 h2; have := e2 h3; omega
set_option maxRecDepth 100000 in
set_option maxHeartbeats 3200000 in
theorem nearest_any (p q : Int) (s0 : Bool) (A0 : Option Addr) (n0 c0 : Nat) (t0 : Bool) (B0 : Option Addr) (m0 d0 : Nat) (w : World) (hx : PF w s0 A0 n0 c0 t0 B0 m0 d0 p q) (hq : 0 < q) (hlp : p.natAbs < lim) (hlq : q.natAbs < lim) :
    Calls Try.prog 48 #[.agg #[.bool s0, .slice A0 n0 c0, .bool t0, .slice B0 m0 d0]] w fun e w' => e = .returned (.tuple #[.int .i64 (neV p q), .int .i64 (zC p q)]) ∧ Below w.heap.size w w' := by
  obtain ⟨W, hW⟩ : ∃ W, w.alloc (.cells #[.bool s0, .slice A0 n0 c0, .bool t0, .slice B0 m0 d0] 31) = W := ⟨_, rfl⟩
  have HK := Lib.hid (show Below w.heap.size w W by rw [← hW]; exact (Below.refl _ w).alloc (Nat.le_refl _) _)
  have HA := Lib.hid (show P4 31 W w.heap.size (.bool s0) (.slice A0 n0 c0) (.bool t0) (.slice B0 m0 d0) by rw [← hW]; exact P4.lit _ _ _ _ _ _)
  have HX := Lib.hid (hx.new HK.out)
  have HL := Lib.hid (And.intro hq (And.intro hlp hlq))
  clear hx hq hlp hlq
  go_enter Try.func48, Try.ntmps48
  go_wp2_with fail
  refine (search_any p q s0 A0 n0 c0 t0 B0 m0 d0 w.heap.size W HA.out HX.out HL.out).mono ?_
  rintro e w1 ⟨⟨k, rfl, h1, h2, h3⟩, hb1⟩
  have HB1 := Lib.hid (bt HK.out hb1)
  have HV := Lib.hid (ne_of HL.out.1 ⟨h1, h2, h3⟩)
  obtain ⟨h1a, h1b⟩ := h1
  clear hb1 h2 h3
  obtain ⟨y, hy⟩ : ∃ y, k - 1073741825 = y := ⟨_, rfl⟩
  rw [hy] at HV
  have hy1 : -1073741825 + k = y := by omega
  have hw1 : IntKind.i64.wrap (-1073741825 + k) = y := by rw [hy1]; exact IntWalk.i64_in _ (by omega)
  clear hy hy1
  go_wp2
  go_ret2
  exact ⟨by rw [← HV.out]; first | rfl | (simp [hw1, zC]), HB1.out⟩
set_option maxRecDepth 100000 in
set_option maxHeartbeats 3200000 in
theorem eachnear_any (p q u v : Int) (s0 : Bool) (A0 : Option Addr) (n0 c0 : Nat) (t0 : Bool) (B0 : Option Addr) (m0 d0 : Nat) (s1 : Bool) (A1 : Option Addr) (n1 c1 : Nat) (t1 : Bool) (B1 : Option Addr) (m1 d1 : Nat) (w : World) (h0 : PF w s0 A0 n0 c0 t0 B0 m0 d0 p q) (h1 : PF w s1 A1 n1 c1 t1 B1 m1 d1 u v) (hl : (0 < q ∧ p.natAbs < lim ∧ q.natAbs < lim) ∧ (0 < v ∧ u.natAbs < lim ∧ v.natAbs < lim)) :
    Calls Try.prog 45 #[.agg #[.bool s0, .slice A0 n0 c0, .bool t0, .slice B0 m0 d0, .bool s1, .slice A1 n1 c1, .bool t1, .slice B1 m1 d1], .func (.func 48) #[] #[]] w fun e w' => e = .returned (.tuple #[.agg #[.int .i64 (eiA neV zC p q u v), .int .i64 (eiB neV zC p q u v)], .int .i64 (eiC zC p q u v)]) ∧ Below w.heap.size w w' := by
  have HL := Lib.hid hl
  clear hl
  obtain ⟨RA, hRA⟩ : ∃ x, eiA neV zC p q u v = x := ⟨_, rfl⟩
  obtain ⟨RB, hRB⟩ : ∃ x, eiB neV zC p q u v = x := ⟨_, rfl⟩
  obtain ⟨RC, hRC⟩ : ∃ x, eiC zC p q u v = x := ⟨_, rfl⟩
  have HRES := Lib.hid (And.intro hRA (And.intro hRB hRC))
  rw [hRA, hRB, hRC]
  clear hRA hRB hRC
  obtain ⟨W, hW⟩ : ∃ W, ((w.alloc (.cells #[.bool s0, .slice A0 n0 c0, .bool t0, .slice B0 m0 d0, .bool s1, .slice A1 n1 c1, .bool t1, .slice B1 m1 d1] 78)).alloc (.cells #[.int .i64 0, .int .i64 0] 87)).alloc (.cells #[.int .i64 0, .int .i64 0] 87) = W := ⟨_, rfl⟩
  have HK := Lib.hid (show Below w.heap.size w W by rw [← hW]; exact (((Below.refl _ w).alloc (Nat.le_refl _) _).alloc (by simp) _).alloc (by simp; omega) _)
  have HA := Lib.hid (show P8 78 W w.heap.size (.bool s0) (.slice A0 n0 c0) (.bool t0) (.slice B0 m0 d0) (.bool s1) (.slice A1 n1 c1) (.bool t1) (.slice B1 m1 d1) by rw [← hW]; exact ((P8.lit w _ _ _ _ _ _ _ _ _).new ((Below.refl _ _).alloc (Nat.le_refl _) _)).new ((Below.refl _ _).alloc (Nat.le_refl _) _))
  have HZ := Lib.hid (show P2 87 W (w.heap.size + 1) (.int .i64 0) (.int .i64 0) by
    rw [← hW]
    have h0 := P2.lit (w.alloc (.cells #[.bool s0, .slice A0 n0 c0, .bool t0, .slice B0 m0 d0, .bool s1, .slice A1 n1 c1, .bool t1, .slice B1 m1 d1] 78)) 87 (.int .i64 0) (.int .i64 0)
    rw [World.size_alloc] at h0
    exact h0.alloc _)
  have HR := Lib.hid (show P2 87 W (w.heap.size + 1 + 1) (.int .i64 0) (.int .i64 0) by
    rw [← hW]
    have h0 := P2.lit ((w.alloc (.cells #[.bool s0, .slice A0 n0 c0, .bool t0, .slice B0 m0 d0, .bool s1, .slice A1 n1 c1, .bool t1, .slice B1 m1 d1] 78)).alloc (.cells #[.int .i64 0, .int .i64 0] 87)) 87 (.int .i64 0) (.int .i64 0)
    rw [World.size_alloc, World.size_alloc] at h0
    exact h0)
  have H0 := Lib.hid (h0.new HK.out)
  have H1 := Lib.hid (h1.new HK.out)
  clear h0 h1
  obtain ⟨h, hh⟩ : ∃ h, w.heap.size = h := ⟨_, rfl⟩
  have HH := Lib.hid hh
  rw [hh] at HA HZ HR
  obtain ⟨⟨p0, p1, p2, p3⟩, p4, p5, p6, p7⟩ := HA.out.cells
  go_enter Try.func45, Try.ntmps45
  go_wp2_with fail
  clear hW hh p0 p1 p2 p3 p4 p5 p6 p7 HA
  go_loopw [11] (fun tv wr => ∃ (i : Nat) (a b : Int), i ≤ 2 ∧ tv = .int .i64 (i : Int) ∧ P2 87 wr (h + 1) (.int .i64 0) (.int .i64 0) ∧ P2 87 wr (h + 1 + 1) (.int .i64 a) (.int .i64 b) ∧ PF wr s0 A0 n0 c0 t0 B0 m0 d0 p q ∧ PF wr s1 A1 n1 c1 t1 B1 m1 d1 u v ∧ Hid ((0 < i → zC p q = 0 ∧ a = neV p q) ∧ (1 < i → zC u v = 0 ∧ b = neV u v)) ∧ Below w.heap.size w wr) (fun tv _ => 2 - (intOf tv).toNat)
  case atStart => exact ⟨0, 0, 0, by omega, rfl, HZ.out, HR.out, H0.out, H1.out, Lib.hid ⟨fun h => by omega, fun h => by omega⟩, HK.out⟩
  case round =>
    clear HZ HR HK H0 H1
    obtain ⟨i, a, b, hi, rfl, hz, hr, h0, h1, hle, hbel⟩ := hrel
    have HZ := Lib.hid hz
    have HR := Lib.hid hr
    have H0 := Lib.hid h0
    have H1 := Lib.hid h1
    have HBB := Lib.hid hbel
    clear hz hr h0 h1 hbel
    have hi3 : i = 0 ∨ i = 1 ∨ i = 2 := by omega
    rcases hi3 with rfl | rfl | rfl
    · have hix := fun wx => jx0 (x0 := .bool s0) (x1 := .slice A0 n0 c0) (x2 := .bool t0) (x3 := .slice B0 m0 d0) (y0 := .bool s1) (y1 := .slice A1 n1 c1) (y2 := .bool t1) (y3 := .slice B1 m1 d1) wx
      obtain ⟨X, hX⟩ : ∃ X, wr.alloc (.cells #[.bool s0, .slice A0 n0 c0, .bool t0, .slice B0 m0 d0] 31) = X := ⟨_, rfl⟩
      have HKX := Lib.hid (show Below wr.heap.size wr X by rw [← hX]; exact (Below.refl _ _).alloc (Nat.le_refl _) _)
      have HQX := Lib.hid (show P4 31 X wr.heap.size (.bool s0) (.slice A0 n0 c0) (.bool t0) (.slice B0 m0 d0) by rw [← hX]; exact P4.lit _ _ _ _ _ _)
      obtain ⟨q0, q1, q2, q3⟩ := HQX.out.cells
      go_wp2_with fail
      clear hix hX
      refine (nearest_any p q s0 A0 n0 c0 t0 B0 m0 d0 X (H0.out.new HKX.out) HL.out.1.1 HL.out.1.2.1 HL.out.1.2.2).mono ?_
      rintro e w2 ⟨rfl, hb2⟩
      have HB2 := Lib.hid (bt HKX.out hb2)
      have HZ2 := Lib.hid (HZ.out.new HB2.out)
      have HP2 := Lib.hid (HR.out.new HB2.out)
      have H02 := Lib.hid (H0.out.new HB2.out)
      have H12 := Lib.hid (H1.out.new HB2.out)
      have HBX := Lib.hid (bt HBB.out HB2.out)
      clear hb2 q0 q1 q2 q3
      obtain ⟨r0, r1⟩ := HP2.out.cells
      have f0 := HP2.out.frozen 0
      obtain ⟨val, hval⟩ : ∃ k, neV p q = k := ⟨_, rfl⟩
      obtain ⟨code, hcode⟩ : ∃ k, zC p q = k := ⟨_, rfl⟩
      have HVC := Lib.hid (And.intro hval hcode)
      rw [hval, hcode]
      clear hval hcode
      obtain ⟨U, hU⟩ : ∃ U, w2.setCell ⟨h + 1 + 1, 0, none⟩ (.int .i64 val) = U := ⟨_, rfl⟩
      have hno : NoW w2 (h + 1 + 1) := noW_of HP2.out rfl
      have hkp : Kp (· = h + 1 + 1) w2 U := by rw [← hU]; exact (Kp.refl (· = h + 1 + 1) w2).setCell (p := ⟨h + 1 + 1, 0, none⟩) (fun _ => rfl) _
      have HP3 := Lib.hid (show P2 87 U (h + 1 + 1) (.int .i64 val) (.int .i64 b) by rw [← hU]; exact HP2.out.lo1 _)
      have HZ3 := Lib.hid (show P2 87 U (h + 1) (.int .i64 0) (.int .i64 0) by rw [← hU]; exact HZ2.out.far (p := ⟨h + 1 + 1, 0, none⟩) (by simp) _)
      have H03 := Lib.hid (PF.apart H02.out hkp hno)
      have H13 := Lib.hid (PF.apart H12.out hkp hno)
      have HB3 := Lib.hid (show Below w.heap.size w U by rw [← hU]; exact HBX.out.setCell (p := ⟨h + 1 + 1, 0, none⟩) (by simp [HH.out]; omega) _)
      clear hno hkp HZ2 HP2 H02 H12 HBX HB2 HQX HKX HZ HR H0 H1 HBB
      by_cases hc : code = 0
      · subst hc
        go_wp2
        go_roundw
        case rel => exact ⟨1, val, b, by omega, by go_num, HZ3.out, HP3.out, H03.out, H13.out, Lib.hid ⟨fun _ => ⟨HVC.out.2, HVC.out.1.symm⟩, fun _ => by omega⟩, HB3.out⟩
        case measure => simp [intOf]
      · have HN := Lib.hid hc
        have hcb : (code == 0) = false := by simp [hc]
        have HE := Lib.hid (show RA = 0 ∧ RB = 0 ∧ RC = code by
          have hne : ¬ (zC p q = 0 ∧ zC u v = 0) := fun h => HN.out (by rw [← HVC.out.2]; exact h.1)
          refine ⟨by rw [← HRES.out.1]; exact if_neg hne, by rw [← HRES.out.2.1]; exact if_neg hne, ?_⟩
          rw [← HRES.out.2.2]
          rw [eiC, if_neg (by rw [HVC.out.2]; exact HN.out), HVC.out.2])
        clear hc
        obtain ⟨z0, z1⟩ := HZ3.out.cells
        have g0 := HZ3.out.frozen 0
        have g1 := HZ3.out.frozen 1
        go_wp2
        exact bodyPost_ret (results_cell1 rfl _ _ _ _ _ _ _ rfl (HZ3.out.all (.int .i64 0) (.int .i64 0)) Try.underlying87 rfl A2_size) rfl ⟨by rw [HE.out.1, HE.out.2.1, HE.out.2.2]; rfl, below_box HB3.out (by rw [HH.out]; omega) _ _⟩
    · have hix := fun wx => jx1 (x0 := .bool s0) (x1 := .slice A0 n0 c0) (x2 := .bool t0) (x3 := .slice B0 m0 d0) (y0 := .bool s1) (y1 := .slice A1 n1 c1) (y2 := .bool t1) (y3 := .slice B1 m1 d1) wx
      obtain ⟨X, hX⟩ : ∃ X, wr.alloc (.cells #[.bool s1, .slice A1 n1 c1, .bool t1, .slice B1 m1 d1] 31) = X := ⟨_, rfl⟩
      have HKX := Lib.hid (show Below wr.heap.size wr X by rw [← hX]; exact (Below.refl _ _).alloc (Nat.le_refl _) _)
      have HQX := Lib.hid (show P4 31 X wr.heap.size (.bool s1) (.slice A1 n1 c1) (.bool t1) (.slice B1 m1 d1) by rw [← hX]; exact P4.lit _ _ _ _ _ _)
      obtain ⟨q0, q1, q2, q3⟩ := HQX.out.cells
      go_wp2_with fail
      clear hix hX
      refine (nearest_any u v s1 A1 n1 c1 t1 B1 m1 d1 X (H1.out.new HKX.out) HL.out.2.1 HL.out.2.2.1 HL.out.2.2.2).mono ?_
      rintro e w2 ⟨rfl, hb2⟩
      have HB2 := Lib.hid (bt HKX.out hb2)
      have HZ2 := Lib.hid (HZ.out.new HB2.out)
      have HP2 := Lib.hid (HR.out.new HB2.out)
      have H02 := Lib.hid (H0.out.new HB2.out)
      have H12 := Lib.hid (H1.out.new HB2.out)
      have HBX := Lib.hid (bt HBB.out HB2.out)
      clear hb2 q0 q1 q2 q3
      obtain ⟨r0, r1⟩ := HP2.out.cells
      have f0 := HP2.out.frozen 1
      obtain ⟨val, hval⟩ : ∃ k, neV u v = k := ⟨_, rfl⟩
      obtain ⟨code, hcode⟩ : ∃ k, zC u v = k := ⟨_, rfl⟩
      have HVC := Lib.hid (And.intro hval hcode)
      rw [hval, hcode]
      clear hval hcode
      obtain ⟨U, hU⟩ : ∃ U, w2.setCell ⟨h + 1 + 1, 1, none⟩ (.int .i64 val) = U := ⟨_, rfl⟩
      have hno : NoW w2 (h + 1 + 1) := noW_of HP2.out rfl
      have hkp : Kp (· = h + 1 + 1) w2 U := by rw [← hU]; exact (Kp.refl (· = h + 1 + 1) w2).setCell (p := ⟨h + 1 + 1, 1, none⟩) (fun _ => rfl) _
      have HP3 := Lib.hid (show P2 87 U (h + 1 + 1) (.int .i64 a) (.int .i64 val) by rw [← hU]; exact HP2.out.hi1 _)
      have HZ3 := Lib.hid (show P2 87 U (h + 1) (.int .i64 0) (.int .i64 0) by rw [← hU]; exact HZ2.out.far (p := ⟨h + 1 + 1, 1, none⟩) (by simp) _)
      have H03 := Lib.hid (PF.apart H02.out hkp hno)
      have H13 := Lib.hid (PF.apart H12.out hkp hno)
      have HB3 := Lib.hid (show Below w.heap.size w U by rw [← hU]; exact HBX.out.setCell (p := ⟨h + 1 + 1, 1, none⟩) (by simp [HH.out]; omega) _)
      clear hno hkp HZ2 HP2 H02 H12 HBX HB2 HQX HKX HZ HR H0 H1 HBB
      by_cases hc : code = 0
      · subst hc
        go_wp2
        go_roundw
        case rel => exact ⟨2, a, val, by omega, by go_num, HZ3.out, HP3.out, H03.out, H13.out, Lib.hid ⟨fun _ => hle.out.1 (by omega), fun _ => ⟨HVC.out.2, HVC.out.1.symm⟩⟩, HB3.out⟩
        case measure => simp [intOf]
      · have HN := Lib.hid hc
        have hcb : (code == 0) = false := by simp [hc]
        have HE := Lib.hid (show RA = 0 ∧ RB = 0 ∧ RC = code by
          have hne : ¬ (zC p q = 0 ∧ zC u v = 0) := fun h => HN.out (by rw [← HVC.out.2]; exact h.2)
          refine ⟨by rw [← HRES.out.1]; exact if_neg hne, by rw [← HRES.out.2.1]; exact if_neg hne, ?_⟩
          rw [← HRES.out.2.2]
          rw [eiC, if_pos (hle.out.1 (by omega)).1, HVC.out.2])
        clear hc
        obtain ⟨z0, z1⟩ := HZ3.out.cells
        have g0 := HZ3.out.frozen 0
        have g1 := HZ3.out.frozen 1
        go_wp2
        exact bodyPost_ret (results_cell1 rfl _ _ _ _ _ _ _ rfl (HZ3.out.all (.int .i64 0) (.int .i64 0)) Try.underlying87 rfl A2_size) rfl ⟨by rw [HE.out.1, HE.out.2.1, HE.out.2.2]; rfl, below_box HB3.out (by rw [HH.out]; omega) _ _⟩
    · have HE := Lib.hid (show RA = a ∧ RB = b ∧ RC = 0 by
        have h1 := hle.out.1 (by omega)
        have h2 := hle.out.2 (by omega)
        refine ⟨?_, ?_, ?_⟩
        · rw [← HRES.out.1, eiA, if_pos ⟨h1.1, h2.1⟩]; exact h1.2.symm
        · rw [← HRES.out.2.1, eiB, if_pos ⟨h1.1, h2.1⟩]; exact h2.2.symm
        · rw [← HRES.out.2.2, eiC, if_pos h1.1, h2.1])
      obtain ⟨r0, r1⟩ := HR.out.cells
      obtain ⟨z0, z1⟩ := HZ.out.cells
      have g0 := HZ.out.frozen 0
      have g1 := HZ.out.frozen 1
      go_wp2
      exact bodyPost_ret (results_cell1 rfl _ _ _ _ _ _ _ rfl (HZ.out.all (.int .i64 a) (.int .i64 b)) Try.underlying87 rfl A2_size) rfl ⟨by rw [HE.out.1, HE.out.2.1, HE.out.2.2]; rfl, below_box HBB.out (by rw [HH.out]; omega) _ _⟩
/-- What Round returns. -/
def rdA (p q u v : Int) : Int := eiA neV zC p q u v
def rdB (p q u v : Int) : Int := eiB neV zC p q u v
def rdE (p q u v : Int) : Int := ogC (rdA p q u v) (rdB p q u v) (eiC zC p q u v)
def rdX (p q u v : Int) : Int := ogV (rdA p q u v) (rdB p q u v) (eiC zC p q u v) (rdA p q u v)
def rdY (p q u v : Int) : Int := ogV (rdA p q u v) (rdB p q u v) (eiC zC p q u v) (rdB p q u v)
set_option maxRecDepth 100000 in
set_option maxHeartbeats 3200000 in
theorem pround_any (p q u v : Int) (s0 : Bool) (A0 : Option Addr) (n0 c0 : Nat) (t0 : Bool) (B0 : Option Addr) (m0 d0 : Nat) (s1 : Bool) (A1 : Option Addr) (n1 c1 : Nat) (t1 : Bool) (B1 : Option Addr) (m1 d1 : Nat) (w : World) (h0 : PF w s0 A0 n0 c0 t0 B0 m0 d0 p q) (h1 : PF w s1 A1 n1 c1 t1 B1 m1 d1 u v) (hl : (0 < q ∧ p.natAbs < lim ∧ q.natAbs < lim) ∧ (0 < v ∧ u.natAbs < lim ∧ v.natAbs < lim)) :
    Calls Try.prog 19 #[.agg #[.bool s0, .slice A0 n0 c0, .bool t0, .slice B0 m0 d0, .bool s1, .slice A1 n1 c1, .bool t1, .slice B1 m1 d1]] w fun e w' => e = .returned (.tuple #[.agg #[.int .i64 (rdX p q u v), .int .i64 (rdY p q u v)], .int .i64 (rdE p q u v)]) ∧ Below w.heap.size w w' := by
  have HL := Lib.hid hl
  clear hl
  obtain ⟨W, hW⟩ : ∃ W, (w.alloc (.cells #[.bool s0, .slice A0 n0 c0, .bool t0, .slice B0 m0 d0, .bool s1, .slice A1 n1 c1, .bool t1, .slice B1 m1 d1] 33)).alloc (.cells #[.int .i64 0, .int .i64 0] 44) = W := ⟨_, rfl⟩
  have HK := Lib.hid (show Below w.heap.size w W by rw [← hW]; exact ((Below.refl _ w).alloc (Nat.le_refl _) _).alloc (by simp) _)
  have HA := Lib.hid (show P8 33 W w.heap.size (.bool s0) (.slice A0 n0 c0) (.bool t0) (.slice B0 m0 d0) (.bool s1) (.slice A1 n1 c1) (.bool t1) (.slice B1 m1 d1) by rw [← hW]; exact (P8.lit w _ _ _ _ _ _ _ _ _).new ((Below.refl _ _).alloc (Nat.le_refl _) _))
  have HZ := Lib.hid (show P2 44 W (w.heap.size + 1) (.int .i64 0) (.int .i64 0) by
    rw [← hW]
    have h0 := P2.lit (w.alloc (.cells #[.bool s0, .slice A0 n0 c0, .bool t0, .slice B0 m0 d0, .bool s1, .slice A1 n1 c1, .bool t1, .slice B1 m1 d1] 33)) 44 (.int .i64 0) (.int .i64 0)
    rw [World.size_alloc] at h0
    exact h0)
  have H0 := Lib.hid (h0.new HK.out)
  have H1 := Lib.hid (h1.new HK.out)
  clear h0 h1
  obtain ⟨h, hh⟩ : ∃ h, w.heap.size = h := ⟨_, rfl⟩
  have HH := Lib.hid hh
  rw [hh] at HA HZ
  obtain ⟨⟨p0, p1, p2, p3⟩, p4, p5, p6, p7⟩ := HA.out.cells
  go_enter Try.func19, Try.ntmps19
  go_wp2_with fail
  clear hW hh
  refine (fractions_any p q u v s0 A0 n0 c0 t0 B0 m0 d0 s1 A1 n1 c1 t1 B1 m1 d1 W H0.out H1.out).mono ?_
  clear H0 H1
  rintro e w1 ⟨s2, A2, n2, c2, t2, B2, m2, d2, s3, A3, n3, c3, t3, B3, m3, d3, rfl, h0, h1, hb1⟩
  have H0 := Lib.hid h0
  have H1 := Lib.hid h1
  have HB1 := Lib.hid (bt HK.out hb1)
  have HZ1 := Lib.hid (HZ.out.new hb1)
  clear h0 h1 hb1 p0 p1 p2 p3 p4 p5 p6 p7
  go_wp2_with fail
  refine (eachnear_any p q u v s2 A2 n2 c2 t2 B2 m2 d2 s3 A3 n3 c3 t3 B3 m3 d3 w1 H0.out H1.out HL.out).mono ?_
  obtain ⟨a, ha⟩ : ∃ k, eiA neV zC p q u v = k := ⟨_, rfl⟩
  obtain ⟨b, hb⟩ : ∃ k, eiB neV zC p q u v = k := ⟨_, rfl⟩
  obtain ⟨k, hk⟩ : ∃ k, eiC zC p q u v = k := ⟨_, rfl⟩
  have HABK := Lib.hid (And.intro ha (And.intro hb hk))
  rw [ha, hb, hk]
  clear ha hb hk
  rintro e w2 ⟨rfl, hb2⟩
  have HB2 := Lib.hid (bt HB1.out hb2)
  have HZ2 := Lib.hid (HZ1.out.new hb2)
  clear hb2
  go_wp2_with fail
  refine (ongrid_any a b k w2).mono ?_
  obtain ⟨x, hx⟩ : ∃ z, ogV a b k a = z := ⟨_, rfl⟩
  obtain ⟨y, hy⟩ : ∃ z, ogV a b k b = z := ⟨_, rfl⟩
  obtain ⟨c, hc⟩ : ∃ z, ogC a b k = z := ⟨_, rfl⟩
  have HV := Lib.hid (show rdX p q u v = x ∧ rdY p q u v = y ∧ rdE p q u v = c by
    unfold rdX rdY rdE rdA rdB
    rw [HABK.out.1, HABK.out.2.1, HABK.out.2.2]
    exact ⟨hx, hy, hc⟩)
  rw [hx, hy, hc]
  clear hx hy hc
  rintro e w3 ⟨rfl, hb3⟩
  have HB3 := Lib.hid (bt HB2.out hb3)
  have HZ3 := Lib.hid (HZ2.out.new hb3)
  clear hb3
  obtain ⟨z0, z1⟩ := HZ3.out.cells
  have g0 := HZ3.out.frozen 0
  have g1 := HZ3.out.frozen 1
  go_wp2
  exact bodyPost_ret (results_cell1 rfl _ _ _ _ _ _ _ rfl (HZ3.out.all (.int .i64 x) (.int .i64 y)) Try.underlying44 rfl G2_size) rfl ⟨by rw [HV.out.1, HV.out.2.1, HV.out.2.2]; rfl, below_box HB3.out (by rw [HH.out]; omega) _ _⟩
end Go.Proofs.Ytfmccalkfagafaa
