/- Contracts of the program's points: Mid. Conditions: as each statement has them. -/
import Derived.Test.YtfmccalkfagafaaYPH
namespace Go.Proofs.Ytfmccalkfagafaa
open Go.RowKit
attribute [local go_sem ↓] Go.wp_at_zero Go.wp_at_succ
/-- Block b is just sixteen cells. -/
def P16 (t : TypeId) (w : World) (b : Nat) (x0 x1 x2 x3 x4 x5 x6 x7 x8 x9 x10 x11 x12 x13 x14 x15 : Value) : Prop := w.heap[b]? = some (.cells #[x0, x1, x2, x3, x4, x5, x6, x7, x8, x9, x10, x11, x12, x13, x14, x15] t (0, 0))
section
variable {t : TypeId} {w w' : World} {b : Nat} {x0 x1 x2 x3 x4 x5 x6 x7 x8 x9 x10 x11 x12 x13 x14 x15 : Value}
theorem P16.lt (h : P16 t w b x0 x1 x2 x3 x4 x5 x6 x7 x8 x9 x10 x11 x12 x13 x14 x15) : b < w.heap.size := (Array.getElem?_eq_some_iff.1 h).1
theorem P16.cells (h : P16 t w b x0 x1 x2 x3 x4 x5 x6 x7 x8 x9 x10 x11 x12 x13 x14 x15) : (w.cell? ⟨b, 0, none⟩ = some x0 ∧ w.cell? ⟨b, 1, none⟩ = some x1 ∧ w.cell? ⟨b, 2, none⟩ = some x2 ∧ w.cell? ⟨b, 3, none⟩ = some x3) ∧ (w.cell? ⟨b, 4, none⟩ = some x4 ∧ w.cell? ⟨b, 5, none⟩ = some x5 ∧ w.cell? ⟨b, 6, none⟩ = some x6 ∧ w.cell? ⟨b, 7, none⟩ = some x7) ∧ (w.cell? ⟨b, 8, none⟩ = some x8 ∧ w.cell? ⟨b, 9, none⟩ = some x9 ∧ w.cell? ⟨b, 10, none⟩ = some x10 ∧ w.cell? ⟨b, 11, none⟩ = some x11) ∧ (w.cell? ⟨b, 12, none⟩ = some x12 ∧ w.cell? ⟨b, 13, none⟩ = some x13 ∧ w.cell? ⟨b, 14, none⟩ = some x14 ∧ w.cell? ⟨b, 15, none⟩ = some x15) := by
  unfold P16 at h
  refine ⟨⟨?_, ?_, ?_, ?_⟩, ⟨?_, ?_, ?_, ?_⟩, ⟨?_, ?_, ?_, ?_⟩, ?_, ?_, ?_, ?_⟩ <;> simp [World.cell?, h]
theorem P16.new (h : P16 t w b x0 x1 x2 x3 x4 x5 x6 x7 x8 x9 x10 x11 x12 x13 x14 x15) (hb : Below w.heap.size w w') : P16 t w' b x0 x1 x2 x3 x4 x5 x6 x7 x8 x9 x10 x11 x12 x13 x14 x15 := (hb.block b h.lt).trans h
theorem P16.lit (w : World) (t : TypeId) (x0 x1 x2 x3 x4 x5 x6 x7 x8 x9 x10 x11 x12 x13 x14 x15 : Value) : P16 t (w.alloc (.cells #[x0, x1, x2, x3, x4, x5, x6, x7, x8, x9, x10, x11, x12, x13, x14, x15] t)) w.heap.size x0 x1 x2 x3 x4 x5 x6 x7 x8 x9 x10 x11 x12 x13 x14 x15 := heap_alloc_new w _
theorem kx0 (wx : World) : (Instr.index 91 (.agg #[x0, x1, x2, x3, x4, x5, x6, x7, x8, x9, x10, x11, x12, x13, x14, x15]) (.int .i64 0)).run Try.prog wx = .ok (.agg #[x0, x1, x2, x3, x4, x5, x6, x7]) wx := by
  first
    | kernel_rfl
    | simp [Instr.index, run_underlying Try.underlying91, asIntOf, go_sem]
theorem kx1 (wx : World) : (Instr.index 91 (.agg #[x0, x1, x2, x3, x4, x5, x6, x7, x8, x9, x10, x11, x12, x13, x14, x15]) (.int .i64 1)).run Try.prog wx = .ok (.agg #[x8, x9, x10, x11, x12, x13, x14, x15]) wx := by
  first
    | kernel_rfl
    | simp [Instr.index, run_underlying Try.underlying91, asIntOf, go_sem]
end
/-- The middle of two points (p/q, u/v) and (p'/q', u'/v'). -/
def meK (p q p' q' u v u' v' : Int) : Prop := mdC p q p' q' = 0 ∧ mdC u v u' v' = 0
instance (p q p' q' u v u' v' : Int) : Decidable (meK p q p' q' u v u' v') := by unfold meK; infer_instance
def meC (p q p' q' u v u' v' : Int) : Int := if mdC p q p' q' = 0 then mdC u v u' v' else mdC p q p' q'
def meX (p q p' q' u v u' v' : Int) : Int := if meK p q p' q' u v u' v' then mdP p q p' q' else 0
def meXd (p q p' q' u v u' v' : Int) : Int := if meK p q p' q' u v u' v' then mdQ p q p' q' else 1
def meY (p q p' q' u v u' v' : Int) : Int := if meK p q p' q' u v u' v' then mdP u v u' v' else 0
def meYd (p q p' q' u v u' v' : Int) : Int := if meK p q p' q' u v u' v' then mdQ u v u' v' else 1
set_option maxRecDepth 100000 in
set_option maxHeartbeats 3200000 in
theorem each3_any (p q p' q' u v u' v' : Int) (s0 : Bool) (A0 : Option Addr) (n0 c0 : Nat) (t0 : Bool) (B0 : Option Addr) (m0 d0 : Nat) (s1 : Bool) (A1 : Option Addr) (n1 c1 : Nat) (t1 : Bool) (B1 : Option Addr) (m1 d1 : Nat) (s2 : Bool) (A2 : Option Addr) (n2 c2 : Nat) (t2 : Bool) (B2 : Option Addr) (m2 d2 : Nat) (s3 : Bool) (A3 : Option Addr) (n3 c3 : Nat) (t3 : Bool) (B3 : Option Addr) (m3 d3 : Nat) (s6 : Bool) (A6 : Option Addr) (n6 c6 : Nat) (t6 : Bool) (B6 : Option Addr) (m6 d6 : Nat) (g : Nat) (w : World) (h0 : PF w s0 A0 n0 c0 t0 B0 m0 d0 p q) (h1 : PF w s1 A1 n1 c1 t1 B1 m1 d1 p' q') (h2 : PF w s2 A2 n2 c2 t2 B2 m2 d2 u v) (h3 : PF w s3 A3 n3 c3 t3 B3 m3 d3 u' v') (ha : P4 31 w g (.bool s6) (.slice A6 n6 c6) (.bool t6) (.slice B6 m6 d6)) (h6 : PF w s6 A6 n6 c6 t6 B6 m6 d6 2 1) (hl : ((0 < q ∧ p.natAbs < lim ∧ q.natAbs < lim) ∧ (0 < q' ∧ p'.natAbs < lim ∧ q'.natAbs < lim)) ∧ (0 < v ∧ u.natAbs < lim ∧ v.natAbs < lim) ∧ (0 < v' ∧ u'.natAbs < lim ∧ v'.natAbs < lim)) :
    Calls Try.prog 51 #[.agg #[.bool s0, .slice A0 n0 c0, .bool t0, .slice B0 m0 d0, .bool s1, .slice A1 n1 c1, .bool t1, .slice B1 m1 d1, .bool s2, .slice A2 n2 c2, .bool t2, .slice B2 m2 d2, .bool s3, .slice A3 n3 c3, .bool t3, .slice B3 m3 d3], .func (.func 52) #[] #[.pointer (some ⟨g, 0, none⟩)]] w (RetTT (meX p q p' q' u v u' v') (meXd p q p' q' u v u' v') (meY p q p' q' u v u' v') (meYd p q p' q' u v u' v') (meC p q p' q' u v u' v') w) := by
  have HL := Lib.hid hl
  clear hl
  obtain ⟨RX, e1⟩ : ∃ z, meX p q p' q' u v u' v' = z := ⟨_, rfl⟩
  obtain ⟨RXd, e2⟩ : ∃ z, meXd p q p' q' u v u' v' = z := ⟨_, rfl⟩
  obtain ⟨RY, e3⟩ : ∃ z, meY p q p' q' u v u' v' = z := ⟨_, rfl⟩
  obtain ⟨RYd, e4⟩ : ∃ z, meYd p q p' q' u v u' v' = z := ⟨_, rfl⟩
  obtain ⟨RC, e5⟩ : ∃ z, meC p q p' q' u v u' v' = z := ⟨_, rfl⟩
  have HRES := Lib.hid (And.intro e1 (And.intro e2 (And.intro e3 (And.intro e4 e5))))
  rw [e1, e2, e3, e4, e5]
  clear e1 e2 e3 e4 e5
  obtain ⟨W, hW⟩ : ∃ W, ((w.alloc (.cells #[.bool s0, .slice A0 n0 c0, .bool t0, .slice B0 m0 d0, .bool s1, .slice A1 n1 c1, .bool t1, .slice B1 m1 d1, .bool s2, .slice A2 n2 c2, .bool t2, .slice B2 m2 d2, .bool s3, .slice A3 n3 c3, .bool t3, .slice B3 m3 d3] 91)).alloc (.cells #[.bool false, .slice none 0 0, .bool false, .slice none 0 0, .bool false, .slice none 0 0, .bool false, .slice none 0 0] 78)).alloc (.cells #[.bool false, .slice none 0 0, .bool false, .slice none 0 0, .bool false, .slice none 0 0, .bool false, .slice none 0 0] 78) = W := ⟨_, rfl⟩
  have HK := Lib.hid (show Below w.heap.size w W by rw [← hW]; exact (((Below.refl _ w).alloc (Nat.le_refl _) _).alloc (by simp) _).alloc (by simp; omega) _)
  have HA := Lib.hid (show P16 91 W w.heap.size (.bool s0) (.slice A0 n0 c0) (.bool t0) (.slice B0 m0 d0) (.bool s1) (.slice A1 n1 c1) (.bool t1) (.slice B1 m1 d1) (.bool s2) (.slice A2 n2 c2) (.bool t2) (.slice B2 m2 d2) (.bool s3) (.slice A3 n3 c3) (.bool t3) (.slice B3 m3 d3) by rw [← hW]; exact ((P16.lit w _ _ _ _ _ _ _ _ _ _ _ _ _ _ _ _ _).new ((Below.refl _ _).alloc (Nat.le_refl _) _)).new ((Below.refl _ _).alloc (Nat.le_refl _) _))
  have HZ := Lib.hid (show P8 78 W (w.heap.size + 1) (.bool false) (.slice none 0 0) (.bool false) (.slice none 0 0) (.bool false) (.slice none 0 0) (.bool false) (.slice none 0 0) by
    rw [← hW]
    have h0 := P8.lit (w.alloc (.cells #[.bool s0, .slice A0 n0 c0, .bool t0, .slice B0 m0 d0, .bool s1, .slice A1 n1 c1, .bool t1, .slice B1 m1 d1, .bool s2, .slice A2 n2 c2, .bool t2, .slice B2 m2 d2, .bool s3, .slice A3 n3 c3, .bool t3, .slice B3 m3 d3] 91)) 78 (.bool false) (.slice none 0 0) (.bool false) (.slice none 0 0) (.bool false) (.slice none 0 0) (.bool false) (.slice none 0 0)
    rw [World.size_alloc] at h0
    exact h0.new ((Below.refl _ _).alloc (Nat.le_refl _) _))
  have HR := Lib.hid (show P8 78 W (w.heap.size + 1 + 1) (.bool false) (.slice none 0 0) (.bool false) (.slice none 0 0) (.bool false) (.slice none 0 0) (.bool false) (.slice none 0 0) by
    rw [← hW]
    have h0 := P8.lit ((w.alloc (.cells #[.bool s0, .slice A0 n0 c0, .bool t0, .slice B0 m0 d0, .bool s1, .slice A1 n1 c1, .bool t1, .slice B1 m1 d1, .bool s2, .slice A2 n2 c2, .bool t2, .slice B2 m2 d2, .bool s3, .slice A3 n3 c3, .bool t3, .slice B3 m3 d3] 91)).alloc (.cells #[.bool false, .slice none 0 0, .bool false, .slice none 0 0, .bool false, .slice none 0 0, .bool false, .slice none 0 0] 78)) 78 (.bool false) (.slice none 0 0) (.bool false) (.slice none 0 0) (.bool false) (.slice none 0 0) (.bool false) (.slice none 0 0)
    rw [World.size_alloc, World.size_alloc] at h0
    exact h0)
  have H0 := Lib.hid (h0.new HK.out)
  have H1 := Lib.hid (h1.new HK.out)
  have H2 := Lib.hid (h2.new HK.out)
  have H3 := Lib.hid (h3.new HK.out)
  have H6 := Lib.hid (h6.new HK.out)
  have HT := Lib.hid (ha.new HK.out)
  have hgl : g < w.heap.size := ha.lt
  clear h0 h1 h2 h3 h6 ha
  obtain ⟨h, hh⟩ : ∃ h, w.heap.size = h := ⟨_, rfl⟩
  have HH := Lib.hid hh
  have HG := Lib.hid (show g < h by omega)
  rw [hh] at HA HZ HR
  clear hgl
  obtain ⟨⟨p0, p1, p2, p3⟩, ⟨p4, p5, p6, p7⟩, ⟨p8, p9, p10, p11⟩, p12, p13, p14, p15⟩ := HA.out.cells
  go_enter Try.func51, Try.ntmps51
  go_wp2_with fail
  clear hW hh p0 p1 p2 p3 p4 p5 p6 p7 p8 p9 p10 p11 p12 p13 p14 p15 HA
  go_loopw [11] (fun tv wr => ∃ (i : Nat) (s4 : Bool) (A4 : Option Addr) (n4 c4 : Nat) (t4 : Bool) (B4 : Option Addr) (m4 d4 : Nat) (s5 : Bool) (A5 : Option Addr) (n5 c5 : Nat) (t5 : Bool) (B5 : Option Addr) (m5 d5 : Nat), i ≤ 2 ∧ tv = .int .i64 (i : Int) ∧ P8 78 wr (h + 1) (.bool false) (.slice none 0 0) (.bool false) (.slice none 0 0) (.bool false) (.slice none 0 0) (.bool false) (.slice none 0 0) ∧ P8 78 wr (h + 1 + 1) (.bool s4) (.slice A4 n4 c4) (.bool t4) (.slice B4 m4 d4) (.bool s5) (.slice A5 n5 c5) (.bool t5) (.slice B5 m5 d5) ∧ (PF wr s0 A0 n0 c0 t0 B0 m0 d0 p q ∧ PF wr s1 A1 n1 c1 t1 B1 m1 d1 p' q' ∧ PF wr s2 A2 n2 c2 t2 B2 m2 d2 u v ∧ PF wr s3 A3 n3 c3 t3 B3 m3 d3 u' v' ∧ PF wr s6 A6 n6 c6 t6 B6 m6 d6 2 1) ∧ P4 31 wr g (.bool s6) (.slice A6 n6 c6) (.bool t6) (.slice B6 m6 d6) ∧ PF wr s4 A4 n4 c4 t4 B4 m4 d4 (if 0 < i then mdP p q p' q' else 0) (if 0 < i then mdQ p q p' q' else 1) ∧ PF wr s5 A5 n5 c5 t5 B5 m5 d5 (if 1 < i then mdP u v u' v' else 0) (if 1 < i then mdQ u v u' v' else 1) ∧ Hid ((0 < i → mdC p q p' q' = 0) ∧ (1 < i → mdC u v u' v' = 0)) ∧ Below w.heap.size w wr) (fun tv _ => 2 - (intOf tv).toNat)
  case atStart => exact ⟨0, _, _, _, _, _, _, _, _, _, _, _, _, _, _, _, _, by omega, rfl, HZ.out, HR.out, ⟨H0.out, H1.out, H2.out, H3.out, H6.out⟩, HT.out, (by rw [if_neg (show ¬ 0 < 0 by omega), if_neg (show ¬ 0 < 0 by omega)]; exact PF.zero W), (by rw [if_neg (show ¬ 1 < 0 by omega), if_neg (show ¬ 1 < 0 by omega)]; exact PF.zero W), Lib.hid ⟨fun h => by omega, fun h => by omega⟩, HK.out⟩
  case round =>
    clear HZ HR HK H0 H1 H2 H3 H6 HT
    obtain ⟨i, s4, A4, n4, c4, t4, B4, m4, d4, s5, A5, n5, c5, t5, B5, m5, d5, hi, rfl, hz, hr, ⟨h0, h1, h2, h3, h6⟩, ht, h4, h5, hle, hbel⟩ := hrel
    have HZ := Lib.hid hz
    have HR := Lib.hid hr
    have H0 := Lib.hid h0
    have H1 := Lib.hid h1
    have H2 := Lib.hid h2
    have H3 := Lib.hid h3
    have H6 := Lib.hid h6
    have HT := Lib.hid ht
    have H4 := Lib.hid h4
    have H5 := Lib.hid h5
    have HB := Lib.hid hbel
    clear hz hr h0 h1 h2 h3 h6 ht h4 h5 hbel
    have hi3 : i = 0 ∨ i = 1 ∨ i = 2 := by omega
    rcases hi3 with rfl | rfl | rfl
    · rw [if_neg (show ¬ 1 < 0 by omega), if_neg (show ¬ 1 < 0 by omega)] at H5
      have hix := fun wx => kx0 (x0 := .bool s0) (x1 := .slice A0 n0 c0) (x2 := .bool t0) (x3 := .slice B0 m0 d0) (x4 := .bool s1) (x5 := .slice A1 n1 c1) (x6 := .bool t1) (x7 := .slice B1 m1 d1) (x8 := .bool s2) (x9 := .slice A2 n2 c2) (x10 := .bool t2) (x11 := .slice B2 m2 d2) (x12 := .bool s3) (x13 := .slice A3 n3 c3) (x14 := .bool t3) (x15 := .slice B3 m3 d3) wx
      obtain ⟨X, hX⟩ : ∃ X, wr.alloc (.cells #[.bool s0, .slice A0 n0 c0, .bool t0, .slice B0 m0 d0, .bool s1, .slice A1 n1 c1, .bool t1, .slice B1 m1 d1] 78) = X := ⟨_, rfl⟩
      have HKX := Lib.hid (show Below wr.heap.size wr X by rw [← hX]; exact (Below.refl _ _).alloc (Nat.le_refl _) _)
      have HQX := Lib.hid (show P8 78 X wr.heap.size (.bool s0) (.slice A0 n0 c0) (.bool t0) (.slice B0 m0 d0) (.bool s1) (.slice A1 n1 c1) (.bool t1) (.slice B1 m1 d1) by rw [← hX]; exact P8.lit _ _ _ _ _ _ _ _ _ _)
      obtain ⟨⟨q0, q1, q2, q3⟩, q4, q5, q6, q7⟩ := HQX.out.cells
      go_wp2_with fail
      clear hix hX
      refine (mid1_any p q p' q' s0 A0 n0 c0 t0 B0 m0 d0 s1 A1 n1 c1 t1 B1 m1 d1 s6 A6 n6 c6 t6 B6 m6 d6 g X (H0.out.new HKX.out) (H1.out.new HKX.out) (HT.out.new HKX.out) (H6.out.new HKX.out) HL.out.1).mono ?_
      obtain ⟨code, hcode⟩ : ∃ z, mdC p q p' q' = z := ⟨_, rfl⟩
      have HVC := Lib.hid hcode
      rw [hcode]
      clear hcode
      rintro e w2 ⟨s7, A7, n7, c7, t7, B7, m7, d7, rfl, hr2, hb2⟩
      have HB2 := Lib.hid (bt HKX.out hb2)
      have HR7 := Lib.hid hr2
      have HZ2 := Lib.hid (HZ.out.new HB2.out)
      have HP2 := Lib.hid (HR.out.new HB2.out)
      have HBX := Lib.hid (bt HB.out HB2.out)
      clear hr2 hb2 q0 q1 q2 q3 q4 q5 q6 q7
      obtain ⟨⟨p0, p1, p2, p3⟩, p4, p5, p6, p7⟩ := HP2.out.cells
      have f0 := HP2.out.frozen 0
      have f1 := HP2.out.frozen 1
      have f2 := HP2.out.frozen 2
      have f3 := HP2.out.frozen 3
      obtain ⟨U, hU⟩ : ∃ U, (((w2.setCell ⟨h + 1 + 1, 0, none⟩ (.bool s7)).setCell ⟨h + 1 + 1, 1, none⟩ (.slice A7 n7 c7)).setCell ⟨h + 1 + 1, 2, none⟩ (.bool t7)).setCell ⟨h + 1 + 1, 3, none⟩ (.slice B7 m7 d7) = U := ⟨_, rfl⟩
      have hno : NoW w2 (h + 1 + 1) := noW_of HP2.out rfl
      have hkp : Kp (· = h + 1 + 1) w2 U := by rw [← hU]; exact kp4 w2 (h + 1 + 1) 0 _ _ _ _
      have HP3 := Lib.hid (show P8 78 U (h + 1 + 1) (.bool s7) (.slice A7 n7 c7) (.bool t7) (.slice B7 m7 d7) (.bool s5) (.slice A5 n5 c5) (.bool t5) (.slice B5 m5 d5) by rw [← hU]; exact HP2.out.lo _ _ _ _)
      have HZ3 := Lib.hid (show P8 78 U (h + 1) (.bool false) (.slice none 0 0) (.bool false) (.slice none 0 0) (.bool false) (.slice none 0 0) (.bool false) (.slice none 0 0) by rw [← hU]; exact (((HZ2.out.far (p := ⟨h + 1 + 1, 0, none⟩) (by simp) _).far (p := ⟨h + 1 + 1, 1, none⟩) (by simp) _).far (p := ⟨h + 1 + 1, 2, none⟩) (by simp) _).far (p := ⟨h + 1 + 1, 3, none⟩) (by simp) _)
      have hge : g ≠ h + 1 + 1 := by have := HG.out; omega
      have HT3 := Lib.hid (show P4 31 U g (.bool s6) (.slice A6 n6 c6) (.bool t6) (.slice B6 m6 d6) by rw [← hU]; exact ((((HT.out.new HB2.out).far (p := ⟨h + 1 + 1, 0, none⟩) hge _).far (p := ⟨h + 1 + 1, 1, none⟩) hge _).far (p := ⟨h + 1 + 1, 2, none⟩) hge _).far (p := ⟨h + 1 + 1, 3, none⟩) hge _)
      have H73 := Lib.hid (PF.apart HR7.out hkp hno)
      have H03 := Lib.hid (PF.apart (H0.out.new HB2.out) hkp hno)
      have H13 := Lib.hid (PF.apart (H1.out.new HB2.out) hkp hno)
      have H23 := Lib.hid (PF.apart (H2.out.new HB2.out) hkp hno)
      have H33 := Lib.hid (PF.apart (H3.out.new HB2.out) hkp hno)
      have H63 := Lib.hid (PF.apart (H6.out.new HB2.out) hkp hno)
      have HO3 := Lib.hid (PF.apart (H5.out.new HB2.out) hkp hno)
      have HB3 := Lib.hid (show Below w.heap.size w U by rw [← hU]; exact below4 HBX.out (by rw [HH.out]; omega) 0 _ _ _ _)
      clear hno hkp hge HR7 HZ2 HP2 HBX HB2 HKX HQX HZ HR H0 H1 H2 H3 H4 H5 H6 HT HB
      by_cases hc : code = 0
      · subst hc
        go_wp2
        go_roundw
        case rel => exact ⟨1, s7, A7, n7, c7, t7, B7, m7, d7, s5, A5, n5, c5, t5, B5, m5, d5, by omega, by go_num, HZ3.out, HP3.out, ⟨H03.out, H13.out, H23.out, H33.out, H63.out⟩, HT3.out, (by rw [if_pos (show 0 < 1 by omega), if_pos (show 0 < 1 by omega)]; exact H73.out), (by rw [if_neg (show ¬ 1 < 1 by omega), if_neg (show ¬ 1 < 1 by omega)]; exact HO3.out), Lib.hid ⟨fun _ => HVC.out, fun _ => by omega⟩, HB3.out⟩
        case measure => simp [intOf]
      · have HN := Lib.hid hc
        have hcb : (code == 0) = false := by simp [hc]
        have HE := Lib.hid (show RX = 0 ∧ RXd = 1 ∧ RY = 0 ∧ RYd = 1 ∧ RC = code by
          have hne : ¬ meK p q p' q' u v u' v' := fun h => HN.out (by rw [← HVC.out]; exact h.1)
          refine ⟨by rw [← HRES.out.1]; exact if_neg hne, by rw [← HRES.out.2.1]; exact if_neg hne, by rw [← HRES.out.2.2.1]; exact if_neg hne, by rw [← HRES.out.2.2.2.1]; exact if_neg hne, ?_⟩
          rw [← HRES.out.2.2.2.2]
          rw [meC, if_neg (by rw [HVC.out]; exact HN.out), HVC.out])
        clear hc
        obtain ⟨⟨z0, z1, z2, z3⟩, z4, z5, z6, z7⟩ := HZ3.out.cells
        have g0 := HZ3.out.frozen 0
        have g1 := HZ3.out.frozen 1
        have g2 := HZ3.out.frozen 2
        have g3 := HZ3.out.frozen 3
        have g4 := HZ3.out.frozen 4
        have g5 := HZ3.out.frozen 5
        have g6 := HZ3.out.frozen 6
        have g7 := HZ3.out.frozen 7
        go_wp2
        exact bodyPost_ret (results_cell1 rfl _ _ _ _ _ _ _ rfl (HZ3.out.all (.bool false) (.slice none 0 0) (.bool false) (.slice none 0 0) (.bool false) (.slice none 0 0) (.bool false) (.slice none 0 0)) Try.underlying78 rfl T8_size) rfl (by rw [HE.out.1, HE.out.2.1, HE.out.2.2.1, HE.out.2.2.2.1, HE.out.2.2.2.2]; exact ⟨_, _, _, _, _, _, _, _, _, _, _, _, _, _, _, _, rfl, PF.zero _, PF.zero _, below8 HB3.out (by rw [HH.out]; omega) _ _ _ _ _ _ _ _⟩)
    · rw [if_pos (show 0 < 1 by omega), if_pos (show 0 < 1 by omega)] at H4
      have hix := fun wx => kx1 (x0 := .bool s0) (x1 := .slice A0 n0 c0) (x2 := .bool t0) (x3 := .slice B0 m0 d0) (x4 := .bool s1) (x5 := .slice A1 n1 c1) (x6 := .bool t1) (x7 := .slice B1 m1 d1) (x8 := .bool s2) (x9 := .slice A2 n2 c2) (x10 := .bool t2) (x11 := .slice B2 m2 d2) (x12 := .bool s3) (x13 := .slice A3 n3 c3) (x14 := .bool t3) (x15 := .slice B3 m3 d3) wx
      obtain ⟨X, hX⟩ : ∃ X, wr.alloc (.cells #[.bool s2, .slice A2 n2 c2, .bool t2, .slice B2 m2 d2, .bool s3, .slice A3 n3 c3, .bool t3, .slice B3 m3 d3] 78) = X := ⟨_, rfl⟩
      have HKX := Lib.hid (show Below wr.heap.size wr X by rw [← hX]; exact (Below.refl _ _).alloc (Nat.le_refl _) _)
      have HQX := Lib.hid (show P8 78 X wr.heap.size (.bool s2) (.slice A2 n2 c2) (.bool t2) (.slice B2 m2 d2) (.bool s3) (.slice A3 n3 c3) (.bool t3) (.slice B3 m3 d3) by rw [← hX]; exact P8.lit _ _ _ _ _ _ _ _ _ _)
      obtain ⟨⟨q0, q1, q2, q3⟩, q4, q5, q6, q7⟩ := HQX.out.cells
      go_wp2_with fail
      clear hix hX
      refine (mid1_any u v u' v' s2 A2 n2 c2 t2 B2 m2 d2 s3 A3 n3 c3 t3 B3 m3 d3 s6 A6 n6 c6 t6 B6 m6 d6 g X (H2.out.new HKX.out) (H3.out.new HKX.out) (HT.out.new HKX.out) (H6.out.new HKX.out) HL.out.2).mono ?_
      obtain ⟨code, hcode⟩ : ∃ z, mdC u v u' v' = z := ⟨_, rfl⟩
      have HVC := Lib.hid hcode
      rw [hcode]
      clear hcode
      rintro e w2 ⟨s7, A7, n7, c7, t7, B7, m7, d7, rfl, hr2, hb2⟩
      have HB2 := Lib.hid (bt HKX.out hb2)
      have HR7 := Lib.hid hr2
      have HZ2 := Lib.hid (HZ.out.new HB2.out)
      have HP2 := Lib.hid (HR.out.new HB2.out)
      have HBX := Lib.hid (bt HB.out HB2.out)
      clear hr2 hb2 q0 q1 q2 q3 q4 q5 q6 q7
      obtain ⟨⟨p0, p1, p2, p3⟩, p4, p5, p6, p7⟩ := HP2.out.cells
      have f0 := HP2.out.frozen 4
      have f1 := HP2.out.frozen 5
      have f2 := HP2.out.frozen 6
      have f3 := HP2.out.frozen 7
      obtain ⟨U, hU⟩ : ∃ U, (((w2.setCell ⟨h + 1 + 1, 4, none⟩ (.bool s7)).setCell ⟨h + 1 + 1, 5, none⟩ (.slice A7 n7 c7)).setCell ⟨h + 1 + 1, 6, none⟩ (.bool t7)).setCell ⟨h + 1 + 1, 7, none⟩ (.slice B7 m7 d7) = U := ⟨_, rfl⟩
      have hno : NoW w2 (h + 1 + 1) := noW_of HP2.out rfl
      have hkp : Kp (· = h + 1 + 1) w2 U := by rw [← hU]; exact kp4 w2 (h + 1 + 1) 4 _ _ _ _
      have HP3 := Lib.hid (show P8 78 U (h + 1 + 1) (.bool s4) (.slice A4 n4 c4) (.bool t4) (.slice B4 m4 d4) (.bool s7) (.slice A7 n7 c7) (.bool t7) (.slice B7 m7 d7) by rw [← hU]; exact HP2.out.hi _ _ _ _)
      have HZ3 := Lib.hid (show P8 78 U (h + 1) (.bool false) (.slice none 0 0) (.bool false) (.slice none 0 0) (.bool false) (.slice none 0 0) (.bool false) (.slice none 0 0) by rw [← hU]; exact (((HZ2.out.far (p := ⟨h + 1 + 1, 4, none⟩) (by simp) _).far (p := ⟨h + 1 + 1, 5, none⟩) (by simp) _).far (p := ⟨h + 1 + 1, 6, none⟩) (by simp) _).far (p := ⟨h + 1 + 1, 7, none⟩) (by simp) _)
      have hge : g ≠ h + 1 + 1 := by have := HG.out; omega
      have HT3 := Lib.hid (show P4 31 U g (.bool s6) (.slice A6 n6 c6) (.bool t6) (.slice B6 m6 d6) by rw [← hU]; exact ((((HT.out.new HB2.out).far (p := ⟨h + 1 + 1, 4, none⟩) hge _).far (p := ⟨h + 1 + 1, 5, none⟩) hge _).far (p := ⟨h + 1 + 1, 6, none⟩) hge _).far (p := ⟨h + 1 + 1, 7, none⟩) hge _)
      have H73 := Lib.hid (PF.apart HR7.out hkp hno)
      have H03 := Lib.hid (PF.apart (H0.out.new HB2.out) hkp hno)
      have H13 := Lib.hid (PF.apart (H1.out.new HB2.out) hkp hno)
      have H23 := Lib.hid (PF.apart (H2.out.new HB2.out) hkp hno)
      have H33 := Lib.hid (PF.apart (H3.out.new HB2.out) hkp hno)
      have H63 := Lib.hid (PF.apart (H6.out.new HB2.out) hkp hno)
      have HO3 := Lib.hid (PF.apart (H4.out.new HB2.out) hkp hno)
      have HB3 := Lib.hid (show Below w.heap.size w U by rw [← hU]; exact below4 HBX.out (by rw [HH.out]; omega) 4 _ _ _ _)
      clear hno hkp hge HR7 HZ2 HP2 HBX HB2 HKX HQX HZ HR H0 H1 H2 H3 H4 H5 H6 HT HB
      by_cases hc : code = 0
      · subst hc
        go_wp2
        go_roundw
        case rel => exact ⟨2, s4, A4, n4, c4, t4, B4, m4, d4, s7, A7, n7, c7, t7, B7, m7, d7, by omega, by go_num, HZ3.out, HP3.out, ⟨H03.out, H13.out, H23.out, H33.out, H63.out⟩, HT3.out, (by rw [if_pos (show 0 < 2 by omega), if_pos (show 0 < 2 by omega)]; exact HO3.out), (by rw [if_pos (show 1 < 2 by omega), if_pos (show 1 < 2 by omega)]; exact H73.out), Lib.hid ⟨fun _ => hle.out.1 (by omega), fun _ => HVC.out⟩, HB3.out⟩
        case measure => simp [intOf]
      · have HN := Lib.hid hc
        have hcb : (code == 0) = false := by simp [hc]
        have HE := Lib.hid (show RX = 0 ∧ RXd = 1 ∧ RY = 0 ∧ RYd = 1 ∧ RC = code by
          have hne : ¬ meK p q p' q' u v u' v' := fun h => HN.out (by rw [← HVC.out]; exact h.2)
          refine ⟨by rw [← HRES.out.1]; exact if_neg hne, by rw [← HRES.out.2.1]; exact if_neg hne, by rw [← HRES.out.2.2.1]; exact if_neg hne, by rw [← HRES.out.2.2.2.1]; exact if_neg hne, ?_⟩
          rw [← HRES.out.2.2.2.2]
          rw [meC, if_pos (hle.out.1 (by omega)), HVC.out])
        clear hc
        obtain ⟨⟨z0, z1, z2, z3⟩, z4, z5, z6, z7⟩ := HZ3.out.cells
        have g0 := HZ3.out.frozen 0
        have g1 := HZ3.out.frozen 1
        have g2 := HZ3.out.frozen 2
        have g3 := HZ3.out.frozen 3
        have g4 := HZ3.out.frozen 4
        have g5 := HZ3.out.frozen 5
        have g6 := HZ3.out.frozen 6
        have g7 := HZ3.out.frozen 7
        go_wp2
        exact bodyPost_ret (results_cell1 rfl _ _ _ _ _ _ _ rfl (HZ3.out.all (.bool false) (.slice none 0 0) (.bool false) (.slice none 0 0) (.bool false) (.slice none 0 0) (.bool false) (.slice none 0 0)) Try.underlying78 rfl T8_size) rfl (by rw [HE.out.1, HE.out.2.1, HE.out.2.2.1, HE.out.2.2.2.1, HE.out.2.2.2.2]; exact ⟨_, _, _, _, _, _, _, _, _, _, _, _, _, _, _, _, rfl, PF.zero _, PF.zero _, below8 HB3.out (by rw [HH.out]; omega) _ _ _ _ _ _ _ _⟩)
    · rw [if_pos (show 0 < 2 by omega), if_pos (show 0 < 2 by omega)] at H4
      rw [if_pos (show 1 < 2 by omega), if_pos (show 1 < 2 by omega)] at H5
      have HE := Lib.hid (show RX = mdP p q p' q' ∧ RXd = mdQ p q p' q' ∧ RY = mdP u v u' v' ∧ RYd = mdQ u v u' v' ∧ RC = 0 by
        have hk : meK p q p' q' u v u' v' := ⟨hle.out.1 (by omega), hle.out.2 (by omega)⟩
        exact ⟨by rw [← HRES.out.1]; exact if_pos hk, by rw [← HRES.out.2.1]; exact if_pos hk, by rw [← HRES.out.2.2.1]; exact if_pos hk, by rw [← HRES.out.2.2.2.1]; exact if_pos hk, by rw [← HRES.out.2.2.2.2, meC, if_pos hk.1, hk.2]⟩)
      obtain ⟨⟨p0, p1, p2, p3⟩, p4, p5, p6, p7⟩ := HR.out.cells
      obtain ⟨⟨z0, z1, z2, z3⟩, z4, z5, z6, z7⟩ := HZ.out.cells
      have g0 := HZ.out.frozen 0
      have g1 := HZ.out.frozen 1
      have g2 := HZ.out.frozen 2
      have g3 := HZ.out.frozen 3
      have g4 := HZ.out.frozen 4
      have g5 := HZ.out.frozen 5
      have g6 := HZ.out.frozen 6
      have g7 := HZ.out.frozen 7
      have HNO := Lib.hid (show NoW wr (h + 1) from noW_of HZ.out rfl)
      go_wp2
      exact bodyPost_ret (results_cell1 rfl _ _ _ _ _ _ _ rfl (HZ.out.all (.bool s4) (.slice A4 n4 c4) (.bool t4) (.slice B4 m4 d4) (.bool s5) (.slice A5 n5 c5) (.bool t5) (.slice B5 m5 d5)) Try.underlying78 rfl T8_size) rfl (by rw [HE.out.1, HE.out.2.1, HE.out.2.2.1, HE.out.2.2.2.1, HE.out.2.2.2.2]; exact ⟨s4, A4, n4, c4, t4, B4, m4, d4, s5, A5, n5, c5, t5, B5, m5, d5, rfl, PF.apart H4.out (kp8 wr (h + 1) _ _ _ _ _ _ _ _) HNO.out, PF.apart H5.out (kp8 wr (h + 1) _ _ _ _ _ _ _ _) HNO.out, below8 HB.out (by rw [HH.out]; omega) _ _ _ _ _ _ _ _⟩)
end Go.Proofs.Ytfmccalkfagafaa
