/- Contracts of the program's points: each over Of's closure, rational, Of, fractions. Conditions: as each statement has them. -/
import Derived.Test.YtfmccalkfagafaaYPB
namespace Go.Proofs.Ytfmccalkfagafaa
open Go.RowKit
attribute [local go_sem ↓] Go.wp_at_zero Go.wp_at_succ
theorem T8_size : (Try.prog.info? 78).map (·.size) = some 8 := by kernel_rfl
theorem TP_size : (Try.prog.info? 33).map (·.size) = some 8 := by kernel_rfl
/-- What a function returns that returns two fractions and an error. -/
def RetTT (p q u v code : Int) (w : World) (e : Ending) (w' : World) : Prop := ∃ (s0 : Bool) (A0 : Option Addr) (n0 c0 : Nat) (t0 : Bool) (B0 : Option Addr) (m0 d0 : Nat) (s1 : Bool) (A1 : Option Addr) (n1 c1 : Nat) (t1 : Bool) (B1 : Option Addr) (m1 d1 : Nat), e = .returned (.tuple #[.agg #[.bool s0, .slice A0 n0 c0, .bool t0, .slice B0 m0 d0, .bool s1, .slice A1 n1 c1, .bool t1, .slice B1 m1 d1], .int .i64 code]) ∧ PF w' s0 A0 n0 c0 t0 B0 m0 d0 p q ∧ PF w' s1 A1 n1 c1 t1 B1 m1 d1 u v ∧ Below w.heap.size w w'
/-- The same without an error. -/
def RetTw (p q u v : Int) (w : World) (e : Ending) (w' : World) : Prop := ∃ (s0 : Bool) (A0 : Option Addr) (n0 c0 : Nat) (t0 : Bool) (B0 : Option Addr) (m0 d0 : Nat) (s1 : Bool) (A1 : Option Addr) (n1 c1 : Nat) (t1 : Bool) (B1 : Option Addr) (m1 d1 : Nat), e = .returned (.agg #[.bool s0, .slice A0 n0 c0, .bool t0, .slice B0 m0 d0, .bool s1, .slice A1 n1 c1, .bool t1, .slice B1 m1 d1]) ∧ PF w' s0 A0 n0 c0 t0 B0 m0 d0 p q ∧ PF w' s1 A1 n1 c1 t1 B1 m1 d1 u v ∧ Below w.heap.size w w'
theorem ix0 (x y : Int) (wx : World) : (Instr.index 87 (.agg #[.int .i64 x, .int .i64 y]) (.int .i64 0)).run Try.prog wx = .ok (.int .i64 x) wx := by
  simp [Instr.index, run_underlying Try.underlying87, asIntOf, go_sem]
theorem ix1 (x y : Int) (wx : World) : (Instr.index 87 (.agg #[.int .i64 x, .int .i64 y]) (.int .i64 1)).run Try.prog wx = .ok (.int .i64 y) wx := by
  simp [Instr.index, run_underlying Try.underlying87, asIntOf, go_sem]
theorem PF.zero (w : World) : PF w false none 0 0 false none 0 0 0 1 := ⟨PI.zero w, PI.zero w⟩
set_option maxRecDepth 100000 in
set_option maxHeartbeats 3200000 in
theorem eachof_any (x y : Int) (w : World) (hx : (Lit.int .i64 x).wf = true) (hy : (Lit.int .i64 y).wf = true) :
    Calls Try.prog 58 #[.agg #[.int .i64 x, .int .i64 y], .func (.func 60) #[] #[]] w (RetTT x 1 y 1 0 w) := by
  have HX := Lib.hid (And.intro hx hy)
  clear hx hy
  obtain ⟨W, hW⟩ : ∃ W, ((w.alloc (.cells #[.int .i64 x, .int .i64 y] 87)).alloc (.cells #[.bool false, .slice none 0 0, .bool false, .slice none 0 0, .bool false, .slice none 0 0, .bool false, .slice none 0 0] 78)).alloc (.cells #[.bool false, .slice none 0 0, .bool false, .slice none 0 0, .bool false, .slice none 0 0, .bool false, .slice none 0 0] 78) = W := ⟨_, rfl⟩
  have HK := Lib.hid (show Below w.heap.size w W by rw [← hW]; exact (((Below.refl _ w).alloc (Nat.le_refl _) _).alloc (by simp) _).alloc (by simp; omega) _)
  have HA := Lib.hid (show P2 87 W w.heap.size (.int .i64 x) (.int .i64 y) by rw [← hW]; exact ((P2.lit w _ _ _).alloc _).alloc _)
  have HZ := Lib.hid (show P8 78 W (w.heap.size + 1) (.bool false) (.slice none 0 0) (.bool false) (.slice none 0 0) (.bool false) (.slice none 0 0) (.bool false) (.slice none 0 0) by
    rw [← hW]
    have h0 := P8.lit (w.alloc (.cells #[.int .i64 x, .int .i64 y] 87)) 78 (.bool false) (.slice none 0 0) (.bool false) (.slice none 0 0) (.bool false) (.slice none 0 0) (.bool false) (.slice none 0 0)
    rw [World.size_alloc] at h0
    exact h0.new ((Below.refl _ _).alloc (Nat.le_refl _) _))
  have HR := Lib.hid (show P8 78 W (w.heap.size + 1 + 1) (.bool false) (.slice none 0 0) (.bool false) (.slice none 0 0) (.bool false) (.slice none 0 0) (.bool false) (.slice none 0 0) by
    rw [← hW]
    have h0 := P8.lit ((w.alloc (.cells #[.int .i64 x, .int .i64 y] 87)).alloc (.cells #[.bool false, .slice none 0 0, .bool false, .slice none 0 0, .bool false, .slice none 0 0, .bool false, .slice none 0 0] 78)) 78 (.bool false) (.slice none 0 0) (.bool false) (.slice none 0 0) (.bool false) (.slice none 0 0) (.bool false) (.slice none 0 0)
    rw [World.size_alloc, World.size_alloc] at h0
    exact h0)
  obtain ⟨h, hh⟩ : ∃ h, w.heap.size = h := ⟨_, rfl⟩
  have HH := Lib.hid hh
  rw [hh] at HA HZ HR
  obtain ⟨a0, a1⟩ := HA.out.cells
  go_enter Try.func58, Try.ntmps58
  go_wp2_with fail
  clear hW hh a0 a1
  go_loopw [11] (fun v wr => ∃ (i : Nat) (s0 : Bool) (A0 : Option Addr) (n0 c0 : Nat) (t0 : Bool) (B0 : Option Addr) (m0 d0 : Nat) (s1 : Bool) (A1 : Option Addr) (n1 c1 : Nat) (t1 : Bool) (B1 : Option Addr) (m1 d1 : Nat), i ≤ 2 ∧ v = .int .i64 (i : Int) ∧ P8 78 wr (h + 1) (.bool false) (.slice none 0 0) (.bool false) (.slice none 0 0) (.bool false) (.slice none 0 0) (.bool false) (.slice none 0 0) ∧ P8 78 wr (h + 1 + 1) (.bool s0) (.slice A0 n0 c0) (.bool t0) (.slice B0 m0 d0) (.bool s1) (.slice A1 n1 c1) (.bool t1) (.slice B1 m1 d1) ∧ PF wr s0 A0 n0 c0 t0 B0 m0 d0 (if 0 < i then x else 0) 1 ∧ PF wr s1 A1 n1 c1 t1 B1 m1 d1 (if 1 < i then y else 0) 1 ∧ Below w.heap.size w wr) (fun v _ => 2 - (intOf v).toNat)
  case atStart => exact ⟨0, _, _, _, _, _, _, _, _, _, _, _, _, _, _, _, _, by omega, rfl, HZ.out, HR.out, PF.zero W, PF.zero W, HK.out⟩
  case round =>
    clear HA HZ HR HK
    obtain ⟨i, s0, A0, n0, c0, t0, B0, m0, d0, s1, A1, n1, c1, t1, B1, m1, d1, hi, rfl, hz, hr, h0, h1, hbel⟩ := hrel
    have HZ := Lib.hid hz
    have HR := Lib.hid hr
    have H0 := Lib.hid h0
    have H1 := Lib.hid h1
    have HB := Lib.hid hbel
    clear hz hr h0 h1 hbel
    have hi3 : i = 0 ∨ i = 1 ∨ i = 2 := by omega
    rcases hi3 with rfl | rfl | rfl
    · rw [if_neg (show ¬ 0 < 0 by omega)] at H0
      rw [if_neg (show ¬ 1 < 0 by omega)] at H1
      have hix := ix0 x y
      go_wp2_with fail
      clear hix
      refine (ofone_any x wr HX.out.1).mono ?_
      rintro e w2 ⟨s2, A2, n2, c2, t2, B2, m2, d2, rfl, hr2, hb2⟩
      have HR2 := Lib.hid hr2
      have HZ2 := Lib.hid (HZ.out.new hb2)
      have HP2 := Lib.hid (HR.out.new hb2)
      have HO2 := Lib.hid (H1.out.new hb2)
      have HB2 := Lib.hid (bt HB.out hb2)
      clear hr2 hb2
      obtain ⟨⟨p0, p1, p2, p3⟩, p4, p5, p6, p7⟩ := HP2.out.cells
      have f0 := HP2.out.frozen 0
      have f1 := HP2.out.frozen 1
      have f2 := HP2.out.frozen 2
      have f3 := HP2.out.frozen 3
      obtain ⟨U, hU⟩ : ∃ U, (((w2.setCell ⟨h + 1 + 1, 0, none⟩ (.bool s2)).setCell ⟨h + 1 + 1, 1, none⟩ (.slice A2 n2 c2)).setCell ⟨h + 1 + 1, 2, none⟩ (.bool t2)).setCell ⟨h + 1 + 1, 3, none⟩ (.slice B2 m2 d2) = U := ⟨_, rfl⟩
      have hno : NoW w2 (h + 1 + 1) := noW_of HP2.out rfl
      have HP3 := Lib.hid (show P8 78 U (h + 1 + 1) (.bool s2) (.slice A2 n2 c2) (.bool t2) (.slice B2 m2 d2) (.bool s1) (.slice A1 n1 c1) (.bool t1) (.slice B1 m1 d1) by rw [← hU]; exact HP2.out.lo _ _ _ _)
      have HZ3 := Lib.hid (show P8 78 U (h + 1) (.bool false) (.slice none 0 0) (.bool false) (.slice none 0 0) (.bool false) (.slice none 0 0) (.bool false) (.slice none 0 0) by rw [← hU]; exact (((HZ2.out.far (p := ⟨h + 1 + 1, 0, none⟩) (by simp) _).far (p := ⟨h + 1 + 1, 1, none⟩) (by simp) _).far (p := ⟨h + 1 + 1, 2, none⟩) (by simp) _).far (p := ⟨h + 1 + 1, 3, none⟩) (by simp) _)
      have HR3 := Lib.hid (show PF U s2 A2 n2 c2 t2 B2 m2 d2 x 1 by rw [← hU]; exact PF.apart HR2.out (kp4 w2 (h + 1 + 1) 0 _ _ _ _) hno)
      have HO3 := Lib.hid (show PF U s1 A1 n1 c1 t1 B1 m1 d1 0 1 by rw [← hU]; exact PF.apart HO2.out (kp4 w2 (h + 1 + 1) 0 _ _ _ _) hno)
      have HB3 := Lib.hid (show Below w.heap.size w U by rw [← hU]; exact below4 HB2.out (by rw [HH.out]; omega) 0 _ _ _ _)
      clear hno HR2 HZ2 HP2 HO2 HB2 HZ HR H0 H1 HB
      go_wp2
      go_roundw
      case rel => exact ⟨1, s2, A2, n2, c2, t2, B2, m2, d2, s1, A1, n1, c1, t1, B1, m1, d1, by omega, by go_num, HZ3.out, HP3.out, HR3.out, HO3.out, HB3.out⟩
      case measure => simp [intOf]
    · rw [if_neg (show ¬ 1 < 1 by omega)] at H1
      rw [if_pos (show 0 < 1 by omega)] at H0
      have hix := ix1 x y
      go_wp2_with fail
      clear hix
      refine (ofone_any y wr HX.out.2).mono ?_
      rintro e w2 ⟨s2, A2, n2, c2, t2, B2, m2, d2, rfl, hr2, hb2⟩
      have HR2 := Lib.hid hr2
      have HZ2 := Lib.hid (HZ.out.new hb2)
      have HP2 := Lib.hid (HR.out.new hb2)
      have HO2 := Lib.hid (H0.out.new hb2)
      have HB2 := Lib.hid (bt HB.out hb2)
      clear hr2 hb2
      obtain ⟨⟨p0, p1, p2, p3⟩, p4, p5, p6, p7⟩ := HP2.out.cells
      have f0 := HP2.out.frozen 4
      have f1 := HP2.out.frozen 5
      have f2 := HP2.out.frozen 6
      have f3 := HP2.out.frozen 7
      obtain ⟨U, hU⟩ : ∃ U, (((w2.setCell ⟨h + 1 + 1, 4, none⟩ (.bool s2)).setCell ⟨h + 1 + 1, 5, none⟩ (.slice A2 n2 c2)).setCell ⟨h + 1 + 1, 6, none⟩ (.bool t2)).setCell ⟨h + 1 + 1, 7, none⟩ (.slice B2 m2 d2) = U := ⟨_, rfl⟩
      have hno : NoW w2 (h + 1 + 1) := noW_of HP2.out rfl
      have HP3 := Lib.hid (show P8 78 U (h + 1 + 1) (.bool s0) (.slice A0 n0 c0) (.bool t0) (.slice B0 m0 d0) (.bool s2) (.slice A2 n2 c2) (.bool t2) (.slice B2 m2 d2) by rw [← hU]; exact HP2.out.hi _ _ _ _)
      have HZ3 := Lib.hid (show P8 78 U (h + 1) (.bool false) (.slice none 0 0) (.bool false) (.slice none 0 0) (.bool false) (.slice none 0 0) (.bool false) (.slice none 0 0) by rw [← hU]; exact (((HZ2.out.far (p := ⟨h + 1 + 1, 4, none⟩) (by simp) _).far (p := ⟨h + 1 + 1, 5, none⟩) (by simp) _).far (p := ⟨h + 1 + 1, 6, none⟩) (by simp) _).far (p := ⟨h + 1 + 1, 7, none⟩) (by simp) _)
      have HR3 := Lib.hid (show PF U s2 A2 n2 c2 t2 B2 m2 d2 y 1 by rw [← hU]; exact PF.apart HR2.out (kp4 w2 (h + 1 + 1) 4 _ _ _ _) hno)
      have HO3 := Lib.hid (show PF U s0 A0 n0 c0 t0 B0 m0 d0 x 1 by rw [← hU]; exact PF.apart HO2.out (kp4 w2 (h + 1 + 1) 4 _ _ _ _) hno)
      have HB3 := Lib.hid (show Below w.heap.size w U by rw [← hU]; exact below4 HB2.out (by rw [HH.out]; omega) 4 _ _ _ _)
      clear hno HR2 HZ2 HP2 HO2 HB2 HZ HR H0 H1 HB
      go_wp2
      go_roundw
      case rel => exact ⟨2, s0, A0, n0, c0, t0, B0, m0, d0, s2, A2, n2, c2, t2, B2, m2, d2, by omega, by go_num, HZ3.out, HP3.out, HO3.out, HR3.out, HB3.out⟩
      case measure => simp [intOf]
    · rw [if_pos (show 0 < 2 by omega)] at H0
      rw [if_pos (show 1 < 2 by omega)] at H1
      obtain ⟨⟨p0, p1, p2, p3⟩, p4, p5, p6, p7⟩ := HR.out.cells
      obtain ⟨⟨z0, z1, z2, z3⟩, z4, z5, z6, z7⟩ := HZ.out.cells
      have f0 := HZ.out.frozen 0
      have f1 := HZ.out.frozen 1
      have f2 := HZ.out.frozen 2
      have f3 := HZ.out.frozen 3
      have f4 := HZ.out.frozen 4
      have f5 := HZ.out.frozen 5
      have f6 := HZ.out.frozen 6
      have f7 := HZ.out.frozen 7
      have HNO := Lib.hid (show NoW wr (h + 1) from noW_of HZ.out rfl)
      go_wp2
      exact bodyPost_ret (results_cell1 rfl _ _ _ _ _ _ _ rfl (HZ.out.all (.bool s0) (.slice A0 n0 c0) (.bool t0) (.slice B0 m0 d0) (.bool s1) (.slice A1 n1 c1) (.bool t1) (.slice B1 m1 d1)) Try.underlying78 rfl T8_size) rfl ⟨s0, A0, n0, c0, t0, B0, m0, d0, s1, A1, n1, c1, t1, B1, m1, d1, rfl, PF.apart H0.out (kp8 wr (h + 1) _ _ _ _ _ _ _ _) HNO.out, PF.apart H1.out (kp8 wr (h + 1) _ _ _ _ _ _ _ _) HNO.out, below8 HB.out (by rw [HH.out]; omega) _ _ _ _ _ _ _ _⟩
set_option maxRecDepth 100000 in
set_option maxHeartbeats 3200000 in
theorem rational_any (p q u v : Int) (s0 : Bool) (A0 : Option Addr) (n0 c0 : Nat) (t0 : Bool) (B0 : Option Addr) (m0 d0 : Nat) (s1 : Bool) (A1 : Option Addr) (n1 c1 : Nat) (t1 : Bool) (B1 : Option Addr) (m1 d1 : Nat) (code : Int) (w : World) (hx : PF w s0 A0 n0 c0 t0 B0 m0 d0 p q) (hy : PF w s1 A1 n1 c1 t1 B1 m1 d1 u v) :
    Calls Try.prog 50 #[.agg #[.bool s0, .slice A0 n0 c0, .bool t0, .slice B0 m0 d0, .bool s1, .slice A1 n1 c1, .bool t1, .slice B1 m1 d1], .int .i64 code] w (RetTT p q u v code w) := by
  obtain ⟨W, hW⟩ : ∃ W, (w.alloc (.cells #[.bool s0, .slice A0 n0 c0, .bool t0, .slice B0 m0 d0, .bool s1, .slice A1 n1 c1, .bool t1, .slice B1 m1 d1] 78)).alloc (.cells #[.bool false, .slice none 0 0, .bool false, .slice none 0 0, .bool false, .slice none 0 0, .bool false, .slice none 0 0] 33) = W := ⟨_, rfl⟩
  have HK := Lib.hid (show Below w.heap.size w W by rw [← hW]; exact ((Below.refl _ w).alloc (Nat.le_refl _) _).alloc (by simp) _)
  have HA := Lib.hid (show P8 78 W w.heap.size (.bool s0) (.slice A0 n0 c0) (.bool t0) (.slice B0 m0 d0) (.bool s1) (.slice A1 n1 c1) (.bool t1) (.slice B1 m1 d1) by rw [← hW]; exact (P8.lit w _ _ _ _ _ _ _ _ _).new ((Below.refl _ _).alloc (Nat.le_refl _) _))
  have HZ := Lib.hid (show P8 33 W (w.heap.size + 1) (.bool false) (.slice none 0 0) (.bool false) (.slice none 0 0) (.bool false) (.slice none 0 0) (.bool false) (.slice none 0 0) by
    rw [← hW]
    have h0 := P8.lit (w.alloc (.cells #[.bool s0, .slice A0 n0 c0, .bool t0, .slice B0 m0 d0, .bool s1, .slice A1 n1 c1, .bool t1, .slice B1 m1 d1] 78)) 33 (.bool false) (.slice none 0 0) (.bool false) (.slice none 0 0) (.bool false) (.slice none 0 0) (.bool false) (.slice none 0 0)
    rw [World.size_alloc] at h0
    exact h0)
  have H0 := Lib.hid (hx.new HK.out)
  have H1 := Lib.hid (hy.new HK.out)
  clear hx hy
  obtain ⟨⟨p0, p1, p2, p3⟩, p4, p5, p6, p7⟩ := HA.out.cells
  obtain ⟨⟨z0, z1, z2, z3⟩, z4, z5, z6, z7⟩ := HZ.out.cells
  have f0 := HZ.out.frozen 0
  have f1 := HZ.out.frozen 1
  have f2 := HZ.out.frozen 2
  have f3 := HZ.out.frozen 3
  have f4 := HZ.out.frozen 4
  have f5 := HZ.out.frozen 5
  have f6 := HZ.out.frozen 6
  have f7 := HZ.out.frozen 7
  have HNO := Lib.hid (show NoW W (w.heap.size + 1) from noW_of HZ.out rfl)
  go_enter Try.func50, Try.ntmps50
  go_wp2
  exact bodyPost_ret (results_cell1 rfl _ _ _ _ _ _ _ rfl (HZ.out.all (.bool s0) (.slice A0 n0 c0) (.bool t0) (.slice B0 m0 d0) (.bool s1) (.slice A1 n1 c1) (.bool t1) (.slice B1 m1 d1)) Try.underlying33 rfl TP_size) rfl ⟨s0, A0, n0, c0, t0, B0, m0, d0, s1, A1, n1, c1, t1, B1, m1, d1, rfl, PF.apart H0.out (kp8 W (w.heap.size + 1) _ _ _ _ _ _ _ _) HNO.out, PF.apart H1.out (kp8 W (w.heap.size + 1) _ _ _ _ _ _ _ _) HNO.out, below8 HK.out (by omega) _ _ _ _ _ _ _ _⟩
set_option maxRecDepth 100000 in
set_option maxHeartbeats 3200000 in
theorem fractions_any (p q u v : Int) (s0 : Bool) (A0 : Option Addr) (n0 c0 : Nat) (t0 : Bool) (B0 : Option Addr) (m0 d0 : Nat) (s1 : Bool) (A1 : Option Addr) (n1 c1 : Nat) (t1 : Bool) (B1 : Option Addr) (m1 d1 : Nat) (w : World) (hx : PF w s0 A0 n0 c0 t0 B0 m0 d0 p q) (hy : PF w s1 A1 n1 c1 t1 B1 m1 d1 u v) :
    Calls Try.prog 38 #[.agg #[.bool s0, .slice A0 n0 c0, .bool t0, .slice B0 m0 d0, .bool s1, .slice A1 n1 c1, .bool t1, .slice B1 m1 d1]] w (RetTw p q u v w) := by
  obtain ⟨W, hW⟩ : ∃ W, (w.alloc (.cells #[.bool s0, .slice A0 n0 c0, .bool t0, .slice B0 m0 d0, .bool s1, .slice A1 n1 c1, .bool t1, .slice B1 m1 d1] 33)).alloc (.cells #[.bool false, .slice none 0 0, .bool false, .slice none 0 0, .bool false, .slice none 0 0, .bool false, .slice none 0 0] 78) = W := ⟨_, rfl⟩
  have HK := Lib.hid (show Below w.heap.size w W by rw [← hW]; exact ((Below.refl _ w).alloc (Nat.le_refl _) _).alloc (by simp) _)
  have HA := Lib.hid (show P8 33 W w.heap.size (.bool s0) (.slice A0 n0 c0) (.bool t0) (.slice B0 m0 d0) (.bool s1) (.slice A1 n1 c1) (.bool t1) (.slice B1 m1 d1) by rw [← hW]; exact (P8.lit w _ _ _ _ _ _ _ _ _).new ((Below.refl _ _).alloc (Nat.le_refl _) _))
  have HZ := Lib.hid (show P8 78 W (w.heap.size + 1) (.bool false) (.slice none 0 0) (.bool false) (.slice none 0 0) (.bool false) (.slice none 0 0) (.bool false) (.slice none 0 0) by
    rw [← hW]
    have h0 := P8.lit (w.alloc (.cells #[.bool s0, .slice A0 n0 c0, .bool t0, .slice B0 m0 d0, .bool s1, .slice A1 n1 c1, .bool t1, .slice B1 m1 d1] 33)) 78 (.bool false) (.slice none 0 0) (.bool false) (.slice none 0 0) (.bool false) (.slice none 0 0) (.bool false) (.slice none 0 0)
    rw [World.size_alloc] at h0
    exact h0)
  have H0 := Lib.hid (hx.new HK.out)
  have H1 := Lib.hid (hy.new HK.out)
  clear hx hy
  obtain ⟨⟨p0, p1, p2, p3⟩, p4, p5, p6, p7⟩ := HA.out.cells
  obtain ⟨⟨z0, z1, z2, z3⟩, z4, z5, z6, z7⟩ := HZ.out.cells
  have f0 := HZ.out.frozen 0
  have f1 := HZ.out.frozen 1
  have f2 := HZ.out.frozen 2
  have f3 := HZ.out.frozen 3
  have f4 := HZ.out.frozen 4
  have f5 := HZ.out.frozen 5
  have f6 := HZ.out.frozen 6
  have f7 := HZ.out.frozen 7
  have HNO := Lib.hid (show NoW W (w.heap.size + 1) from noW_of HZ.out rfl)
  go_enter Try.func38, Try.ntmps38
  go_wp2
  exact bodyPost_ret (results_cell_row rfl _ _ _ _ _ _ _ rfl (HZ.out.all (.bool s0) (.slice A0 n0 c0) (.bool t0) (.slice B0 m0 d0) (.bool s1) (.slice A1 n1 c1) (.bool t1) (.slice B1 m1 d1)) Try.underlying78 rfl T8_size) rfl ⟨s0, A0, n0, c0, t0, B0, m0, d0, s1, A1, n1, c1, t1, B1, m1, d1, rfl, PF.apart H0.out (kp8 W (w.heap.size + 1) _ _ _ _ _ _ _ _) HNO.out, PF.apart H1.out (kp8 W (w.heap.size + 1) _ _ _ _ _ _ _ _) HNO.out, below8 HK.out (by omega) _ _ _ _ _ _ _ _⟩
set_option maxRecDepth 100000 in
set_option maxHeartbeats 3200000 in
theorem pof_any (x y : Int) (w : World) (hx : (Lit.int .i64 x).wf = true) (hy : (Lit.int .i64 y).wf = true) :
    Calls Try.prog 26 #[.agg #[.int .i64 x, .int .i64 y]] w (RetTw x 1 y 1 w) := by
  have HX := Lib.hid (And.intro hx hy)
  clear hx hy
  obtain ⟨W, hW⟩ : ∃ W, (w.alloc (.cells #[.int .i64 x, .int .i64 y] 44)).alloc (.cells #[.bool false, .slice none 0 0, .bool false, .slice none 0 0, .bool false, .slice none 0 0, .bool false, .slice none 0 0] 33) = W := ⟨_, rfl⟩
  have HK := Lib.hid (show Below w.heap.size w W by rw [← hW]; exact ((Below.refl _ w).alloc (Nat.le_refl _) _).alloc (by simp) _)
  have HA := Lib.hid (show P2 44 W w.heap.size (.int .i64 x) (.int .i64 y) by rw [← hW]; exact (P2.lit w _ _ _).alloc _)
  have HZ := Lib.hid (show P8 33 W (w.heap.size + 1) (.bool false) (.slice none 0 0) (.bool false) (.slice none 0 0) (.bool false) (.slice none 0 0) (.bool false) (.slice none 0 0) by
    rw [← hW]
    have h0 := P8.lit (w.alloc (.cells #[.int .i64 x, .int .i64 y] 44)) 33 (.bool false) (.slice none 0 0) (.bool false) (.slice none 0 0) (.bool false) (.slice none 0 0) (.bool false) (.slice none 0 0)
    rw [World.size_alloc] at h0
    exact h0)
  obtain ⟨h, hh⟩ : ∃ h, w.heap.size = h := ⟨_, rfl⟩
  have HH := Lib.hid hh
  rw [hh] at HA HZ
  obtain ⟨a0, a1⟩ := HA.out.cells
  go_enter Try.func26, Try.ntmps26
  go_wp2_with fail
  clear hW hh
  refine (integers_any x y W).mono ?_
  rintro e w1 ⟨rfl, hb1⟩
  have HB1 := Lib.hid (bt HK.out hb1)
  have HZ1 := Lib.hid (HZ.out.new hb1)
  clear hb1 a0 a1
  go_wp2_with fail
  refine (eachof_any x y w1 HX.out.1 HX.out.2).mono ?_
  rintro e w2 ⟨s0, A0, n0, c0, t0, B0, m0, d0, s1, A1, n1, c1, t1, B1, m1, d1, rfl, h0, h1, hb2⟩
  have HR0 := Lib.hid h0
  have HR1 := Lib.hid h1
  have HB2 := Lib.hid (bt HB1.out hb2)
  have HZ2 := Lib.hid (HZ1.out.new hb2)
  clear h0 h1 hb2
  go_wp2_with fail
  refine (rational_any x 1 y 1 s0 A0 n0 c0 t0 B0 m0 d0 s1 A1 n1 c1 t1 B1 m1 d1 0 w2 HR0.out HR1.out).mono ?_
  clear HR0 HR1
  rintro e w3 ⟨s2, A2, n2, c2, t2, B2, m2, d2, s3, A3, n3, c3, t3, B3, m3, d3, rfl, h0, h1, hb3⟩
  obtain ⟨x3, hx3⟩ : ∃ z, w3.alloc (.cells #[.bool s2, .slice A2 n2 c2, .bool t2, .slice B2 m2 d2, .bool s3, .slice A3 n3 c3, .bool t3, .slice B3 m3 d3] 33) = z := ⟨_, rfl⟩
  have HK3 := Lib.hid (show Below w3.heap.size w3 x3 by rw [← hx3]; exact (Below.refl _ _).alloc (Nat.le_refl _) _)
  have HQ3 := Lib.hid (show P8 33 x3 w3.heap.size (.bool s2) (.slice A2 n2 c2) (.bool t2) (.slice B2 m2 d2) (.bool s3) (.slice A3 n3 c3) (.bool t3) (.slice B3 m3 d3) by rw [← hx3]; exact P8.lit _ _ _ _ _ _ _ _ _ _)
  have HR0 := Lib.hid (h0.new HK3.out)
  have HR1 := Lib.hid (h1.new HK3.out)
  have HB3 := Lib.hid (bt HB2.out (bt hb3 HK3.out))
  have HZ3 := Lib.hid ((HZ2.out.new hb3).new HK3.out)
  clear h0 h1 hb3
  obtain ⟨⟨p0, p1, p2, p3⟩, p4, p5, p6, p7⟩ := HQ3.out.cells
  obtain ⟨⟨z0, z1, z2, z3⟩, z4, z5, z6, z7⟩ := HZ3.out.cells
  have f0 := HZ3.out.frozen 0
  have f1 := HZ3.out.frozen 1
  have f2 := HZ3.out.frozen 2
  have f3 := HZ3.out.frozen 3
  have f4 := HZ3.out.frozen 4
  have f5 := HZ3.out.frozen 5
  have f6 := HZ3.out.frozen 6
  have f7 := HZ3.out.frozen 7
  have HNO := Lib.hid (show NoW x3 (h + 1) from noW_of HZ3.out rfl)
  go_wp2
  exact bodyPost_ret (results_cell_row rfl _ _ _ _ _ _ _ rfl (HZ3.out.all (.bool s2) (.slice A2 n2 c2) (.bool t2) (.slice B2 m2 d2) (.bool s3) (.slice A3 n3 c3) (.bool t3) (.slice B3 m3 d3)) Try.underlying33 rfl TP_size) rfl ⟨s2, A2, n2, c2, t2, B2, m2, d2, s3, A3, n3, c3, t3, B3, m3, d3, rfl, PF.apart HR0.out (kp8 x3 (h + 1) _ _ _ _ _ _ _ _) HNO.out, PF.apart HR1.out (kp8 x3 (h + 1) _ _ _ _ _ _ _ _) HNO.out, below8 HB3.out (by rw [HH.out]; omega) _ _ _ _ _ _ _ _⟩
end Go.Proofs.Ytfmccalkfagafaa
