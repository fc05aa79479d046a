/- Contracts of the program's points: whole, each into ints, onGrid, Whole. Conditions: as each statement has them. -/
import Derived.Test.YtfmccalkfagafaaPB
namespace Go.Proofs.Ytfmccalkfagafaa
open Go.RowKit
attribute [local go_sem ↓] Go.wp_at_zero Go.wp_at_succ
/-- What whole returns. -/
def whV (p q : Int) : Int := if isSm p = true ∧ q = 1 then p else 0
def whC (p q : Int) : Int := if isSm p = true ∧ q = 1 then 0 else 5
set_option maxRecDepth 100000 in
set_option maxHeartbeats 3200000 in
theorem whole_any (p q : Int) (s0 : Bool) (A0 : Option Addr) (n0 c0 : Nat) (t0 : Bool) (B0 : Option Addr) (m0 d0 : Nat) (w : World) (hx : PF w s0 A0 n0 c0 t0 B0 m0 d0 p q) (hq : 0 < q) (hlp : p.natAbs < lim) (hlq : q.natAbs < lim) :
    Calls Try.prog 46 #[.agg #[.bool s0, .slice A0 n0 c0, .bool t0, .slice B0 m0 d0]] w fun e w' => e = .returned (.tuple #[.int .i64 (whV p q), .int .i64 (whC p q)]) ∧ Below w.heap.size w w' := by
  obtain ⟨W, hW⟩ : ∃ W, w.alloc (.cells #[.bool s0, .slice A0 n0 c0, .bool t0, .slice B0 m0 d0] 31) = W := ⟨_, rfl⟩
  have HK := Lib.hid (show Below w.heap.size w W by rw [← hW]; exact (Below.refl _ w).alloc (Nat.le_refl _) _)
  have HA := Lib.hid (show P4 31 W w.heap.size (.bool s0) (.slice A0 n0 c0) (.bool t0) (.slice B0 m0 d0) by rw [← hW]; exact P4.lit _ _ _ _ _ _)
  have HX := Lib.hid (hx.new HK.out)
  have hn := plim hx.1 hlp
  have hm := plim hx.2 (dn_lim hlq)
  have HQ := Lib.hid (And.intro hq (And.intro hlp hlq))
  clear hx hq hlp hlq
  obtain ⟨a0, a1, a2, a3⟩ := HA.out.cells
  go_enter Try.func46, Try.ntmps46
  go_wp2_with fail
  refine (num_any p q s0 t0 A0 B0 n0 c0 m0 d0 W HX.out).mono ?_
  rintro e w1 ⟨s1, A1, n1, c1, rfl, hr1, hb1⟩
  have HR1 := Lib.hid hr1
  have HB1 := Lib.hid (bt HK.out hb1)
  have HA1 := Lib.hid (HA.out.new hb1)
  have HX1 := Lib.hid (HX.out.new hb1)
  have hn1 := plim hr1 HQ.out.2.1
  clear hr1 hb1 a0 a1 a2 a3
  go_wp2_with fail
  refine (psmall_any p s1 A1 n1 c1 w1 HR1.out (by omega)).mono ?_
  rintro e w2 ⟨rfl, hb2⟩
  have HB2 := Lib.hid (bt HB1.out hb2)
  have HA2 := Lib.hid (HA1.out.new hb2)
  have HX2 := Lib.hid (HX1.out.new hb2)
  clear hb2
  obtain ⟨a0, a1, a2, a3⟩ := HA2.out.cells
  obtain ⟨k, hk⟩ : ∃ k, smV p = k := ⟨_, rfl⟩
  obtain ⟨b, hb⟩ : ∃ k, isSm p = k := ⟨_, rfl⟩
  have HKB := Lib.hid (And.intro hk hb)
  rw [hk, hb]
  clear hk hb
  go_wp2_with fail
  refine (den_any p q s0 t0 A0 B0 n0 c0 m0 d0 w2 HX2.out (by omega) HQ.out.1).mono ?_
  rintro e w3 ⟨s3, A3, n3, c3, rfl, hr3, hb3⟩
  have HR3 := Lib.hid hr3
  have HB3 := Lib.hid (bt HB2.out hb3)
  have hn3 := plim hr3 HQ.out.2.2
  clear hr3 hb3 a0 a1 a2 a3
  go_wp2_with fail
  refine (psmall_any q s3 A3 n3 c3 w3 HR3.out (by omega)).mono ?_
  rintro e w4 ⟨rfl, hb4⟩
  have HB4 := Lib.hid (bt HB3.out hb4)
  clear hb4
  have ho := sm_one q
  obtain ⟨u, hu⟩ : ∃ u, smV q = u := ⟨_, rfl⟩
  rw [hu] at ho ⊢
  clear hu
  cases b with
  | false =>
    have HV := Lib.hid (show whV p q = 0 ∧ whC p q = 5 from ⟨if_neg (fun h => by rw [HKB.out.2] at h; exact absurd h.1 (by decide)), if_neg (fun h => by rw [HKB.out.2] at h; exact absurd h.1 (by decide))⟩)
    clear ho
    go_wp2
    go_ret2
    exact ⟨by rw [HV.out.1, HV.out.2]; rfl, HB4.out⟩
  | true =>
    rcases ho with ⟨rfl, h1⟩ | ⟨h0, h1⟩
    · have HV := Lib.hid (show whV p q = k ∧ whC p q = 0 from ⟨by rw [whV, if_pos ⟨HKB.out.2, h1⟩, ← HKB.out.1, smV, if_pos HKB.out.2], if_pos ⟨HKB.out.2, h1⟩⟩)
      clear h1
      go_wp2
      go_ret2
      exact ⟨by rw [HV.out.1, HV.out.2]; rfl, HB4.out⟩
    · have HV := Lib.hid (show whV p q = 0 ∧ whC p q = 5 from ⟨if_neg (fun h => h1 h.2), if_neg (fun h => h1 h.2)⟩)
      have hub : (u == 1) = false := by simp [h0]
      clear h1 h0
      go_wp2
      go_ret2
      exact ⟨by rw [HV.out.1, HV.out.2]; rfl, HB4.out⟩
/-- What each returns into ints. -/
def eiA (V C : Int → Int → Int) (p q u v : Int) : Int := if C p q = 0 ∧ C u v = 0 then V p q else 0
def eiB (V C : Int → Int → Int) (p q u v : Int) : Int := if C p q = 0 ∧ C u v = 0 then V u v else 0
def eiC (C : Int → Int → Int) (p q u v : Int) : Int := if C p q = 0 then C u v else C p q
theorem P2.lo1 {t : TypeId} {w : World} {b : Nat} {v0 v1 : Value} (h : P2 t w b v0 v1) (u : Value) : P2 t (w.setCell ⟨b, 0, none⟩ u) b u v1 := by
  unfold P2 at h ⊢
  simp [World.setCell, Array.getElem?_modify, h]
theorem P2.hi1 {t : TypeId} {w : World} {b : Nat} {v0 v1 : Value} (h : P2 t w b v0 v1) (u : Value) : P2 t (w.setCell ⟨b, 1, none⟩ u) b v0 u := by
  unfold P2 at h ⊢
  simp [World.setCell, Array.getElem?_modify, h]
theorem jx0 {x0 x1 x2 x3 y0 y1 y2 y3 : Value} (wx : World) : (Instr.index 78 (.agg #[x0, x1, x2, x3, y0, y1, y2, y3]) (.int .i64 0)).run Try.prog wx = .ok (.agg #[x0, x1, x2, x3]) wx := by
  first
    | kernel_rfl
    | simp [Instr.index, run_underlying Try.underlying78, asIntOf, go_sem]
theorem jx1 {x0 x1 x2 x3 y0 y1 y2 y3 : Value} (wx : World) : (Instr.index 78 (.agg #[x0, x1, x2, x3, y0, y1, y2, y3]) (.int .i64 1)).run Try.prog wx = .ok (.agg #[y0, y1, y2, y3]) wx := by
  first
    | kernel_rfl
    | simp [Instr.index, run_underlying Try.underlying78, asIntOf, go_sem]
set_option maxRecDepth 100000 in
set_option maxHeartbeats 3200000 in
theorem eachwhole_any (p q u v : Int) (s0 : Bool) (A0 : Option Addr) (n0 c0 : Nat) (t0 : Bool) (B0 : Option Addr) (m0 d0 : Nat) (s1 : Bool) (A1 : Option Addr) (n1 c1 : Nat) (t1 : Bool) (B1 : Option Addr) (m1 d1 : Nat) (w : World) (h0 : PF w s0 A0 n0 c0 t0 B0 m0 d0 p q) (h1 : PF w s1 A1 n1 c1 t1 B1 m1 d1 u v) (hl : (0 < q ∧ p.natAbs < lim ∧ q.natAbs < lim) ∧ (0 < v ∧ u.natAbs < lim ∧ v.natAbs < lim)) :
    Calls Try.prog 45 #[.agg #[.bool s0, .slice A0 n0 c0, .bool t0, .slice B0 m0 d0, .bool s1, .slice A1 n1 c1, .bool t1, .slice B1 m1 d1], .func (.func 46) #[] #[]] w fun e w' => e = .returned (.tuple #[.agg #[.int .i64 (eiA whV whC p q u v), .int .i64 (eiB whV whC p q u v)], .int .i64 (eiC whC p q u v)]) ∧ Below w.heap.size w w' := by
  have HL := Lib.hid hl
  clear hl
  obtain ⟨RA, hRA⟩ : ∃ x, eiA whV whC p q u v = x := ⟨_, rfl⟩
  obtain ⟨RB, hRB⟩ : ∃ x, eiB whV whC p q u v = x := ⟨_, rfl⟩
  obtain ⟨RC, hRC⟩ : ∃ x, eiC whC p q u v = x := ⟨_, rfl⟩
  have HRES := Lib.hid (And.intro hRA (And.intro hRB hRC))
  rw [hRA, hRB, hRC]
  clear hRA hRB hRC
  obtain ⟨W, hW⟩ : ∃ W, ((w.alloc (.cells #[.bool s0, .slice A0 n0 c0, .bool t0, .slice B0 m0 d0, .bool s1, .slice A1 n1 c1, .bool t1, .slice B1 m1 d1] 78)).alloc (.cells #[.int .i64 0, .int .i64 0] 87)).alloc (.cells #[.int .i64 0, .int .i64 0] 87) = W := ⟨_, rfl⟩
  have HK := Lib.hid (show Below w.heap.size w W by rw [← hW]; exact (((Below.refl _ w).alloc (Nat.le_refl _) _).alloc (by simp) _).alloc (by simp; omega) _)
  have HA := Lib.hid (show P8 78 W w.heap.size (.bool s0) (.slice A0 n0 c0) (.bool t0) (.slice B0 m0 d0) (.bool s1) (.slice A1 n1 c1) (.bool t1) (.slice B1 m1 d1) by rw [← hW]; exact ((P8.lit w _ _ _ _ _ _ _ _ _).new ((Below.refl _ _).alloc (Nat.le_refl _) _)).new ((Below.refl _ _).alloc (Nat.le_refl _) _))
  have HZ := Lib.hid (show P2 87 W (w.heap.size + 1) (.int .i64 0) (.int .i64 0) by
    rw [← hW]
    have h0 := P2.lit (w.alloc (.cells #[.bool s0, .slice A0 n0 c0, .bool t0, .slice B0 m0 d0, .bool s1, .slice A1 n1 c1, .bool t1, .slice B1 m1 d1] 78)) 87 (.int .i64 0) (.int .i64 0)
    rw [World.size_alloc] at h0
    exact h0.alloc _)
  have HR := Lib.hid (show P2 87 W (w.heap.size + 1 + 1) (.int .i64 0) (.int .i64 0) by
    rw [← hW]
    have h0 := P2.lit ((w.alloc (.cells #[.bool s0, .slice A0 n0 c0, .bool t0, .slice B0 m0 d0, .bool s1, .slice A1 n1 c1, .bool t1, .slice B1 m1 d1] 78)).alloc (.cells #[.int .i64 0, .int .i64 0] 87)) 87 (.int .i64 0) (.int .i64 0)
    rw [World.size_alloc, World.size_alloc] at h0
    exact h0)
  have H0 := Lib.hid (h0.new HK.out)
  have H1 := Lib.hid (h1.new HK.out)
  clear h0 h1
  obtain ⟨h, hh⟩ : ∃ h, w.heap.size = h := ⟨_, rfl⟩
  have HH := Lib.hid hh
  rw [hh] at HA HZ HR
  obtain ⟨⟨p0, p1, p2, p3⟩, p4, p5, p6, p7⟩ := HA.out.cells
  go_enter Try.func45, Try.ntmps45
  go_wp2_with fail
  clear hW hh p0 p1 p2 p3 p4 p5 p6 p7 HA
  go_loopw [11] (fun tv wr => ∃ (i : Nat) (a b : Int), i ≤ 2 ∧ tv = .int .i64 (i : Int) ∧ P2 87 wr (h + 1) (.int .i64 0) (.int .i64 0) ∧ P2 87 wr (h + 1 + 1) (.int .i64 a) (.int .i64 b) ∧ PF wr s0 A0 n0 c0 t0 B0 m0 d0 p q ∧ PF wr s1 A1 n1 c1 t1 B1 m1 d1 u v ∧ Hid ((0 < i → whC p q = 0 ∧ a = whV p q) ∧ (1 < i → whC u v = 0 ∧ b = whV u v)) ∧ Below w.heap.size w wr) (fun tv _ => 2 - (intOf tv).toNat)
  case atStart => exact ⟨0, 0, 0, by omega, rfl, HZ.out, HR.out, H0.out, H1.out, Lib.hid ⟨fun h => by omega, fun h => by omega⟩, HK.out⟩
  case round =>
    clear HZ HR HK H0 H1
    obtain ⟨i, a, b, hi, rfl, hz, hr, h0, h1, hle, hbel⟩ := hrel
    have HZ := Lib.hid hz
    have HR := Lib.hid hr
    have H0 := Lib.hid h0
    have H1 := Lib.hid h1
    have HBB := Lib.hid hbel
    clear hz hr h0 h1 hbel
    have hi3 : i = 0 ∨ i = 1 ∨ i = 2 := by omega
    rcases hi3 with rfl | rfl | rfl
    · have hix := fun wx => jx0 (x0 := .bool s0) (x1 := .slice A0 n0 c0) (x2 := .bool t0) (x3 := .slice B0 m0 d0) (y0 := .bool s1) (y1 := .slice A1 n1 c1) (y2 := .bool t1) (y3 := .slice B1 m1 d1) wx
      obtain ⟨X, hX⟩ : ∃ X, wr.alloc (.cells #[.bool s0, .slice A0 n0 c0, .bool t0, .slice B0 m0 d0] 31) = X := ⟨_, rfl⟩
      have HKX := Lib.hid (show Below wr.heap.size wr X by rw [← hX]; exact (Below.refl _ _).alloc (Nat.le_refl _) _)
      have HQX := Lib.hid (show P4 31 X wr.heap.size (.bool s0) (.slice A0 n0 c0) (.bool t0) (.slice B0 m0 d0) by rw [← hX]; exact P4.lit _ _ _ _ _ _)
      obtain ⟨q0, q1, q2, q3⟩ := HQX.out.cells
      go_wp2_with fail
      clear hix hX
      refine (whole_any p q s0 A0 n0 c0 t0 B0 m0 d0 X (H0.out.new HKX.out) HL.out.1.1 HL.out.1.2.1 HL.out.1.2.2).mono ?_
      rintro e w2 ⟨rfl, hb2⟩
      have HB2 := Lib.hid (bt HKX.out hb2)
      have HZ2 := Lib.hid (HZ.out.new HB2.out)
      have HP2 := Lib.hid (HR.out.new HB2.out)
      have H02 := Lib.hid (H0.out.new HB2.out)
      have H12 := Lib.hid (H1.out.new HB2.out)
      have HBX := Lib.hid (bt HBB.out HB2.out)
      clear hb2 q0 q1 q2 q3
      obtain ⟨r0, r1⟩ := HP2.out.cells
      have f0 := HP2.out.frozen 0
      obtain ⟨val, hval⟩ : ∃ k, whV p q = k := ⟨_, rfl⟩
      obtain ⟨code, hcode⟩ : ∃ k, whC p q = k := ⟨_, rfl⟩
      have HVC := Lib.hid (And.intro hval hcode)
      rw [hval, hcode]
      clear hval hcode
      obtain ⟨U, hU⟩ : ∃ U, w2.setCell ⟨h + 1 + 1, 0, none⟩ (.int .i64 val) = U := ⟨_, rfl⟩
      have hno : NoW w2 (h + 1 + 1) := noW_of HP2.out rfl
      have hkp : Kp (· = h + 1 + 1) w2 U := by rw [← hU]; exact (Kp.refl (· = h + 1 + 1) w2).setCell (p := ⟨h + 1 + 1, 0, none⟩) (fun _ => rfl) _
      have HP3 := Lib.hid (show P2 87 U (h + 1 + 1) (.int .i64 val) (.int .i64 b) by rw [← hU]; exact HP2.out.lo1 _)
      have HZ3 := Lib.hid (show P2 87 U (h + 1) (.int .i64 0) (.int .i64 0) by rw [← hU]; exact HZ2.out.far (p := ⟨h + 1 + 1, 0, none⟩) (by simp) _)
      have H03 := Lib.hid (PF.apart H02.out hkp hno)
      have H13 := Lib.hid (PF.apart H12.out hkp hno)
      have HB3 := Lib.hid (show Below w.heap.size w U by rw [← hU]; exact HBX.out.setCell (p := ⟨h + 1 + 1, 0, none⟩) (by simp [HH.out]; omega) _)
      clear hno hkp HZ2 HP2 H02 H12 HBX HB2 HQX HKX HZ HR H0 H1 HBB
      by_cases hc : code = 0
      · subst hc
        go_wp2
        go_roundw
        case rel => exact ⟨1, val, b, by omega, by go_num, HZ3.out, HP3.out, H03.out, H13.out, Lib.hid ⟨fun _ => ⟨HVC.out.2, HVC.out.1.symm⟩, fun _ => by omega⟩, HB3.out⟩
        case measure => simp [intOf]
      · have HN := Lib.hid hc
        have hcb : (code == 0) = false := by simp [hc]
        have HE := Lib.hid (show RA = 0 ∧ RB = 0 ∧ RC = code by
          have hne : ¬ (whC p q = 0 ∧ whC u v = 0) := fun h => HN.out (by rw [← HVC.out.2]; exact h.1)
          refine ⟨by rw [← HRES.out.1]; exact if_neg hne, by rw [← HRES.out.2.1]; exact if_neg hne, ?_⟩
          rw [← HRES.out.2.2]
          rw [eiC, if_neg (by rw [HVC.out.2]; exact HN.out), HVC.out.2])
        clear hc
        obtain ⟨z0, z1⟩ := HZ3.out.cells
        have g0 := HZ3.out.frozen 0
        have g1 := HZ3.out.frozen 1
        go_wp2
        exact bodyPost_ret (results_cell1 rfl _ _ _ _ _ _ _ rfl (HZ3.out.all (.int .i64 0) (.int .i64 0)) Try.underlying87 rfl A2_size) rfl ⟨by rw [HE.out.1, HE.out.2.1, HE.out.2.2]; rfl, below_box HB3.out (by rw [HH.out]; omega) _ _⟩
    · have hix := fun wx => jx1 (x0 := .bool s0) (x1 := .slice A0 n0 c0) (x2 := .bool t0) (x3 := .slice B0 m0 d0) (y0 := .bool s1) (y1 := .slice A1 n1 c1) (y2 := .bool t1) (y3 := .slice B1 m1 d1) wx
      obtain ⟨X, hX⟩ : ∃ X, wr.alloc (.cells #[.bool s1, .slice A1 n1 c1, .bool t1, .slice B1 m1 d1] 31) = X := ⟨_, rfl⟩
      have HKX := Lib.hid (show Below wr.heap.size wr X by rw [← hX]; exact (Below.refl _ _).alloc (Nat.le_refl _) _)
      have HQX := Lib.hid (show P4 31 X wr.heap.size (.bool s1) (.slice A1 n1 c1) (.bool t1) (.slice B1 m1 d1) by rw [← hX]; exact P4.lit _ _ _ _ _ _)
      obtain ⟨q0, q1, q2, q3⟩ := HQX.out.cells
      go_wp2_with fail
      clear hix hX
      refine (whole_any u v s1 A1 n1 c1 t1 B1 m1 d1 X (H1.out.new HKX.out) HL.out.2.1 HL.out.2.2.1 HL.out.2.2.2).mono ?_
      rintro e w2 ⟨rfl, hb2⟩
      have HB2 := Lib.hid (bt HKX.out hb2)
      have HZ2 := Lib.hid (HZ.out.new HB2.out)
      have HP2 := Lib.hid (HR.out.new HB2.out)
      have H02 := Lib.hid (H0.out.new HB2.out)
      have H12 := Lib.hid (H1.out.new HB2.out)
      have HBX := Lib.hid (bt HBB.out HB2.out)
      clear hb2 q0 q1 q2 q3
      obtain ⟨r0, r1⟩ := HP2.out.cells
      have f0 := HP2.out.frozen 1
      obtain ⟨val, hval⟩ : ∃ k, whV u v = k := ⟨_, rfl⟩
      obtain ⟨code, hcode⟩ : ∃ k, whC u v = k := ⟨_, rfl⟩
      have HVC := Lib.hid (And.intro hval hcode)
      rw [hval, hcode]
      clear hval hcode
      obtain ⟨U, hU⟩ : ∃ U, w2.setCell ⟨h + 1 + 1, 1, none⟩ (.int .i64 val) = U := ⟨_, rfl⟩
      have hno : NoW w2 (h + 1 + 1) := noW_of HP2.out rfl
      have hkp : Kp (· = h + 1 + 1) w2 U := by rw [← hU]; exact (Kp.refl (· = h + 1 + 1) w2).setCell (p := ⟨h + 1 + 1, 1, none⟩) (fun _ => rfl) _
      have HP3 := Lib.hid (show P2 87 U (h + 1 + 1) (.int .i64 a) (.int .i64 val) by rw [← hU]; exact HP2.out.hi1 _)
      have HZ3 := Lib.hid (show P2 87 U (h + 1) (.int .i64 0) (.int .i64 0) by rw [← hU]; exact HZ2.out.far (p := ⟨h + 1 + 1, 1, none⟩) (by simp) _)
      have H03 := Lib.hid (PF.apart H02.out hkp hno)
      have H13 := Lib.hid (PF.apart H12.out hkp hno)
      have HB3 := Lib.hid (show Below w.heap.size w U by rw [← hU]; exact HBX.out.setCell (p := ⟨h + 1 + 1, 1, none⟩) (by simp [HH.out]; omega) _)
      clear hno hkp HZ2 HP2 H02 H12 HBX HB2 HQX HKX HZ HR H0 H1 HBB
      by_cases hc : code = 0
      · subst hc
        go_wp2
        go_roundw
        case rel => exact ⟨2, a, val, by omega, by go_num, HZ3.out, HP3.out, H03.out, H13.out, Lib.hid ⟨fun _ => hle.out.1 (by omega), fun _ => ⟨HVC.out.2, HVC.out.1.symm⟩⟩, HB3.out⟩
        case measure => simp [intOf]
      · have HN := Lib.hid hc
        have hcb : (code == 0) = false := by simp [hc]
        have HE := Lib.hid (show RA = 0 ∧ RB = 0 ∧ RC = code by
          have hne : ¬ (whC p q = 0 ∧ whC u v = 0) := fun h => HN.out (by rw [← HVC.out.2]; exact h.2)
          refine ⟨by rw [← HRES.out.1]; exact if_neg hne, by rw [← HRES.out.2.1]; exact if_neg hne, ?_⟩
          rw [← HRES.out.2.2]
          rw [eiC, if_pos (hle.out.1 (by omega)).1, HVC.out.2])
        clear hc
        obtain ⟨z0, z1⟩ := HZ3.out.cells
        have g0 := HZ3.out.frozen 0
        have g1 := HZ3.out.frozen 1
        go_wp2
        exact bodyPost_ret (results_cell1 rfl _ _ _ _ _ _ _ rfl (HZ3.out.all (.int .i64 0) (.int .i64 0)) Try.underlying87 rfl A2_size) rfl ⟨by rw [HE.out.1, HE.out.2.1, HE.out.2.2]; rfl, below_box HB3.out (by rw [HH.out]; omega) _ _⟩
    · have HE := Lib.hid (show RA = a ∧ RB = b ∧ RC = 0 by
        have h1 := hle.out.1 (by omega)
        have h2 := hle.out.2 (by omega)
        refine ⟨?_, ?_, ?_⟩
        · rw [← HRES.out.1, eiA, if_pos ⟨h1.1, h2.1⟩]; exact h1.2.symm
        · rw [← HRES.out.2.1, eiB, if_pos ⟨h1.1, h2.1⟩]; exact h2.2.symm
        · rw [← HRES.out.2.2, eiC, if_pos h1.1, h2.1])
      obtain ⟨r0, r1⟩ := HR.out.cells
      obtain ⟨z0, z1⟩ := HZ.out.cells
      have g0 := HZ.out.frozen 0
      have g1 := HZ.out.frozen 1
      go_wp2
      exact bodyPost_ret (results_cell1 rfl _ _ _ _ _ _ _ rfl (HZ.out.all (.int .i64 a) (.int .i64 b)) Try.underlying87 rfl A2_size) rfl ⟨by rw [HE.out.1, HE.out.2.1, HE.out.2.2]; rfl, below_box HBB.out (by rw [HH.out]; omega) _ _⟩
theorem G2_size : (Try.prog.info? 44).map (·.size) = some 2 := by kernel_rfl
/-- The error of a point with coordinates and an error before. -/
def ogC (x y code : Int) : Int := if code = 0 then vdC x y else code
def ogV (x y code z : Int) : Int := if ogC x y code = 0 then z else 0
set_option maxRecDepth 100000 in
set_option maxHeartbeats 3200000 in
theorem ongrid_any (x y code : Int) (w : World) :
    Calls Try.prog 44 #[.agg #[.int .i64 x, .int .i64 y], .int .i64 code] w fun e w' => e = .returned (.tuple #[.agg #[.int .i64 (ogV x y code x), .int .i64 (ogV x y code y)], .int .i64 (ogC x y code)]) ∧ Below w.heap.size w w' := by
  obtain ⟨RX, hRX⟩ : ∃ z, ogV x y code x = z := ⟨_, rfl⟩
  obtain ⟨RY, hRY⟩ : ∃ z, ogV x y code y = z := ⟨_, rfl⟩
  obtain ⟨RC, hRC⟩ : ∃ z, ogC x y code = z := ⟨_, rfl⟩
  have HRES := Lib.hid (And.intro hRX (And.intro hRY hRC))
  rw [hRX, hRY, hRC]
  clear hRX hRY hRC
  obtain ⟨W, hW⟩ : ∃ W, ((w.alloc (.cells #[.int .i64 x, .int .i64 y] 87)).alloc (.cells #[.int .i64 0, .int .i64 0] 44)).alloc (.cells #[.int .i64 x, .int .i64 y] 44) = W := ⟨_, rfl⟩
  have HK := Lib.hid (show Below w.heap.size w W by rw [← hW]; exact (((Below.refl _ w).alloc (Nat.le_refl _) _).alloc (by simp) _).alloc (by simp; omega) _)
  have HZ := Lib.hid (show P2 44 W (w.heap.size + 1) (.int .i64 0) (.int .i64 0) by
    rw [← hW]
    have h0 := P2.lit (w.alloc (.cells #[.int .i64 x, .int .i64 y] 87)) 44 (.int .i64 0) (.int .i64 0)
    rw [World.size_alloc] at h0
    exact h0.alloc _)
  have HQ := Lib.hid (show P2 44 W (w.heap.size + 1 + 1) (.int .i64 x) (.int .i64 y) by
    rw [← hW]
    have h0 := P2.lit ((w.alloc (.cells #[.int .i64 x, .int .i64 y] 87)).alloc (.cells #[.int .i64 0, .int .i64 0] 44)) 44 (.int .i64 x) (.int .i64 y)
    rw [World.size_alloc, World.size_alloc] at h0
    exact h0)
  obtain ⟨V, hV⟩ : ∃ V, (w.alloc (.cells #[.int .i64 x, .int .i64 y] 87)).alloc (.cells #[.int .i64 0, .int .i64 0] 44) = V := ⟨_, rfl⟩
  have HAV := Lib.hid (show P2 87 V w.heap.size (.int .i64 x) (.int .i64 y) by rw [← hV]; exact (P2.lit w _ _ _).alloc _)
  obtain ⟨a0, a1⟩ := HAV.out.cells
  rw [hV] at hW
  obtain ⟨h, hh⟩ : ∃ h, w.heap.size = h := ⟨_, rfl⟩
  have HH := Lib.hid hh
  have hvs : V.heap.size = h + 1 + 1 := by rw [← hV, ← hh]; simp
  rw [hh] at HZ HQ a0 a1
  go_enter Try.func44, Try.ntmps44
  by_cases hc : code = 0
  · subst hc
    obtain ⟨q0, q1⟩ := HQ.out.cells
    go_wp2_with fail
    clear hW hV hh hvs a0 a1
    refine (valid_any x y W).mono ?_
    obtain ⟨k, hk⟩ : ∃ k, vdC x y = k := ⟨_, rfl⟩
    have HKV := Lib.hid hk
    rw [hk]
    clear hk
    rintro e w1 ⟨rfl, hb1⟩
    have HB1 := Lib.hid (bt HK.out hb1)
    have HZ1 := Lib.hid (HZ.out.new hb1)
    have HQ1 := Lib.hid (HQ.out.new hb1)
    clear hb1 q0 q1 HZ HQ HK
    obtain ⟨q0, q1⟩ := HQ1.out.cells
    obtain ⟨z0, z1⟩ := HZ1.out.cells
    have g0 := HZ1.out.frozen 0
    have g1 := HZ1.out.frozen 1
    by_cases hk : k = 0
    · have HE := Lib.hid (show RX = x ∧ RY = y ∧ RC = 0 by
        have hz : ogC x y 0 = 0 := by rw [ogC, if_pos rfl, HKV.out, hk]
        exact ⟨by rw [← HRES.out.1, ogV, if_pos hz], by rw [← HRES.out.2.1, ogV, if_pos hz], by rw [← HRES.out.2.2, hz]⟩)
      subst hk
      go_wp2
      exact bodyPost_ret (results_cell1 rfl _ _ _ _ _ _ _ rfl (HZ1.out.all (.int .i64 x) (.int .i64 y)) Try.underlying44 rfl G2_size) rfl ⟨by rw [HE.out.1, HE.out.2.1, HE.out.2.2]; rfl, below_box HB1.out (by rw [HH.out]; omega) _ _⟩
    · have HE := Lib.hid (show RX = 0 ∧ RY = 0 ∧ RC = k by
        have hz : ogC x y 0 = k := by rw [ogC, if_pos rfl, HKV.out]
        exact ⟨by rw [← HRES.out.1, ogV, if_neg (by rw [hz]; exact hk)], by rw [← HRES.out.2.1, ogV, if_neg (by rw [hz]; exact hk)], by rw [← HRES.out.2.2, hz]⟩)
      have hkb : (k == 0) = false := by simp [hk]
      clear hk
      go_wp2
      exact bodyPost_ret (results_cell1 rfl _ _ _ _ _ _ _ rfl (HZ1.out.all (.int .i64 0) (.int .i64 0)) Try.underlying44 rfl G2_size) rfl ⟨by rw [HE.out.1, HE.out.2.1, HE.out.2.2]; rfl, below_box HB1.out (by rw [HH.out]; omega) _ _⟩
  · have HE := Lib.hid (show RX = 0 ∧ RY = 0 ∧ RC = code by
      have hz : ogC x y code = code := by rw [ogC, if_neg hc]
      exact ⟨by rw [← HRES.out.1, ogV, if_neg (by rw [hz]; exact hc)], by rw [← HRES.out.2.1, ogV, if_neg (by rw [hz]; exact hc)], by rw [← HRES.out.2.2, hz]⟩)
    have hkb : (code == 0) = false := by simp [hc]
    clear hc
    obtain ⟨z0, z1⟩ := HZ.out.cells
    have g0 := HZ.out.frozen 0
    have g1 := HZ.out.frozen 1
    go_wp2
    exact bodyPost_ret (results_cell1 rfl _ _ _ _ _ _ _ rfl (HZ.out.all (.int .i64 0) (.int .i64 0)) Try.underlying44 rfl G2_size) rfl ⟨by rw [HE.out.1, HE.out.2.1, HE.out.2.2]; rfl, below_box HK.out (by rw [HH.out]; omega) _ _⟩
end Go.Proofs.Ytfmccalkfagafaa
