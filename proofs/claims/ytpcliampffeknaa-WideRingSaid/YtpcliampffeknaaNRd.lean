/- Contracts of the reference: a number chosen by numbers. -/
import Derived.Test.YtpcliampffeknaaNRc
import Derived.StillTailTactics
namespace Go.Proofs.Ytpcliampffeknaa
open Go.RowKit
attribute [local go_sem ↓] Go.wp_at_zero Go.wp_at_succ
theorem src_new {k : IntKind} {w w' : World} {sv : Value} {zs : List Int} (h : Src k w sv zs) (hb : Below w.heap.size w w') : Src k w' sv zs := by
  rcases h with h | ⟨ad, c, h1, h2, h3⟩
  · exact .inl h
  · exact .inr ⟨ad, c, h1, h2, fun j v hj => (hb.cell (World.block_lt_of_cell? w _ (h3 j v hj))).trans (h3 j v hj)⟩
theorem Got.new {w w' : World} {sv : Value} {zs : List Int} (h : Got w sv zs) (hb : Below w.heap.size w w') : Got w' sv zs := ⟨src_new h.1 hb, h.2⟩
/-- A bound of what Number makes. -/
def numB : Nat := 2 ^ 240
/-- What a function returns that returns some integer below a bound. -/
def RetSome (B : Nat) (w : World) (e : Ending) (w' : World) : Prop := ∃ (x : Int) (s : Bool) (A : Option Addr) (n c : Nat), e = .returned (.agg #[.bool s, .slice A n c]) ∧ RN w' s A n c x ∧ x.natAbs < B ∧ Below w.heap.size w w'
theorem num_step {e : Nat} {x m d : Int} {i : Nat} (he : e ≤ 224) (hm : m.natAbs ≤ 4) (hd : d.natAbs ≤ 2) (hx : x.natAbs ≤ i * 2 ^ 230) : (x + (((2 ^ e : Nat) : Int) * m + d)).natAbs ≤ (i + 1) * 2 ^ 230 := by
  have h1 : 2 ^ e ≤ 2 ^ 224 := Nat.pow_le_pow_right (by decide) he
  have h2 : (((2 ^ e : Nat) : Int) * m).natAbs ≤ 2 ^ 224 * 4 := by
    rw [Int.natAbs_mul, Int.natAbs_natCast]
    exact Nat.mul_le_mul h1 hm
  rw [Nat.add_mul, Nat.one_mul]
  have h3 : 2 ^ 224 * 4 + 2 ≤ 2 ^ 230 := by decide
  generalize (2 : Nat) ^ 230 = B at *
  generalize (2 : Nat) ^ 224 = C at *
  generalize ((2 ^ e : Nat) : Int) * m = p at *
  generalize i * B = D at *
  omega
theorem num_p {e : Nat} {m : Int} (he : e ≤ 224) (hm : m.natAbs ≤ 4) : (((2 ^ e : Nat) : Int) * m).natAbs < 2 ^ 230 := by
  have h1 : 2 ^ e ≤ 2 ^ 224 := Nat.pow_le_pow_right (by decide) he
  rw [Int.natAbs_mul, Int.natAbs_natCast]
  exact Nat.lt_of_le_of_lt (Nat.mul_le_mul h1 hm) (by decide)
theorem num_x {x : Int} {i : Nat} (hx : x.natAbs ≤ i * 2 ^ 230) (hi : i ≤ 5) : x.natAbs < 2 ^ 240 :=
  Nat.lt_of_le_of_lt (Nat.le_trans hx (Nat.mul_le_mul_right _ hi)) (by decide)
theorem num_yd {p d : Int} (hp : p.natAbs < 2 ^ 230) (hd : d.natAbs ≤ 2) : (p + d).natAbs < 2 ^ 250 := by
  have h : (2 : Nat) ^ 230 + 2 ≤ 2 ^ 250 := by decide
  generalize (2 : Nat) ^ 230 = B at *
  generalize (2 : Nat) ^ 250 = C at *
  omega
set_option maxRecDepth 100000 in
set_option maxHeartbeats 3200000 in
theorem number_any (sv : Value) (xs : List Int) (at_ : Nat) (w : World) (h : Got w sv xs) (hat : at_ ≤ 100) :
    Calls Try.prog 11 #[sv, .int .i64 (at_ : Int)] w (RetSome numB w) := by
  obtain ⟨W, hW⟩ : ∃ W, (w.alloc (.cells #[.bool false, .slice none 0 0] 25)).alloc (.cells #[.bool false, .slice none 0 0] 25) = W := ⟨_, rfl⟩
  have HK := Lib.hid (show Below w.heap.size w W by rw [← hW]; exact W2_k _ _ _ _ _ _)
  have HZ := Lib.hid (show P2 25 W w.heap.size (.bool false) (.slice none 0 0) by rw [← hW]; exact W2_a _ _ _ _ _ _)
  have HO := Lib.hid (show P2 25 W (w.heap.size + 1) (.bool false) (.slice none 0 0) by rw [← hW]; exact W2_z _ _ _ _ _ _)
  have HG := Lib.hid h
  have HLT := HO.out.lt
  clear h
  go_enter Try.func11, Try.ntmps11
  obtain ⟨q0, q1⟩ := HO.out.cells
  have qf0 := HO.out.frozen 0
  have qf1 := HO.out.frozen 1
  go_wp2_with fail
  clear hW q0 q1 qf0 qf1
  go_loopw [6] (fun v wr => ∃ (i : Nat) (x : Int) (s : Bool) (A : Option Addr) (n c : Nat), v = .int .i64 (i : Int) ∧ i ≤ 5 ∧ x.natAbs ≤ i * 2 ^ 230 ∧ P2 25 wr w.heap.size (.bool false) (.slice none 0 0) ∧ P2 25 wr (w.heap.size + 1) (.bool s) (.slice A n c) ∧ RN wr s A n c x ∧ Below w.heap.size w wr) (fun v _ => 5 - (intOf v).toNat)
  case atStart => exact ⟨0, 0, false, none, 0, 0, rfl, by omega, by simp, HZ.out.far2 (by omega) _ _, HO.out.all _ _, ⟨rfl, by rw [Int.natAbs_zero, digs_zero]; rfl, by rw [Int.natAbs_zero, digs_zero]; exact LO.nil⟩, below_box HK.out (by omega) _ _⟩
  case round =>
    obtain ⟨i, x, s, A, n, c, rfl, hi, hx, hz, ho, hr, hbel⟩ := hrel
    have HX := Lib.hid hx
    have HZ1 := Lib.hid hz
    have HO1 := Lib.hid ho
    have HR1 := Lib.hid hr
    have HB1 := Lib.hid hbel
    obtain ⟨o0, o1⟩ := ho.cells
    clear hx hz ho hr hbel
    go_wp2_with fail
    refine (pick_any sv xs at_ 5 wr (HG.out.new HB1.out) (by omega) (by decide) (by decide)).mono ?_
    rintro e w1 ⟨⟨k, rfl, hk5⟩, rfl⟩
    by_cases hik : (i : Int) < 1 + k
    · have hi4 : i ≤ 4 := by omega
      go_wp2_with fail
      rw [show ((at_ : Int) + 1 + (i : Int)) = ((at_ + 1 + i : Nat) : Int) by omega]
      refine (pick_any sv xs (at_ + 1 + i) 1000000 wr (HG.out.new HB1.out) (by omega) (by decide) (by decide)).mono ?_
      rintro e w1 ⟨⟨m, rfl, hm⟩, rfl⟩
      obtain ⟨z, hz⟩ : ∃ z : Int, (m : Int) = z := ⟨_, rfl⟩
      rw [hz]
      have hz1 : 0 ≤ z := by omega
      have hz2 : z < 1000000 := by omega
      have HZZ := Lib.hid hz
      clear hz
      go_wp2_with fail
      rw [show (32 * (z % 7) + z / 7 % 5 * 8 : Int) = ((32 * (m % 7) + m / 7 % 5 * 8 : Nat) : Int) by have := HZZ.out; omega]
      have he224 : 32 * (m % 7) + m / 7 % 5 * 8 ≤ 224 := by omega
      generalize 32 * (m % 7) + m / 7 % 5 * 8 = e2 at he224 ⊢
      refine (power_any e2 wr (by omega)).mono ?_
      rintro e w2 ⟨s2, A2, n2, c2, rfl, hr2, hb2⟩
      have HR2 := Lib.hid hr2
      have HB2 := Lib.hid hb2
      have hn2 : n2 ≤ 225 := rn_len hr2 (by rw [Int.natAbs_natCast]; exact Nat.pow_lt_pow_right (by decide) (by omega))
      clear hr2 hb2 o0 o1
      go_wp2_with fail
      obtain ⟨m4, hm4⟩ : ∃ m4 : Int, z / 35 % 9 - 4 = m4 := ⟨_, rfl⟩
      rw [hm4]
      have hm4b : -4 ≤ m4 ∧ m4 ≤ 4 := by omega
      clear hm4
      refine (of_any m4 w2 (WalkArith.wf_i64 (by omega))).mono ?_
      rintro e w3 ⟨s3, A3, n3, c3, rfl, hr3, hb3⟩
      have HR3 := Lib.hid hr3
      have HR23 := Lib.hid (HR2.out.new hb3)
      have HB3 := Lib.hid (bt HB2.out hb3)
      have hn3 : n3 ≤ 4 := rn_len hr3 (by omega)
      clear hr3 hb3
      go_wp2_with fail
      refine (mul_any ((2 ^ e2 : Nat) : Int) m4 s2 s3 A2 A3 n2 c2 n3 c3 w3 HR23.out HR3.out (by omega) (by omega)).mono ?_
      rintro e w4 ⟨s4, A4, n4, c4, rfl, hr4, hb4⟩
      have HR4 := Lib.hid hr4
      have HB4 := Lib.hid (bt HB3.out hb4)
      clear hr4 hb4
      have hn4 : n4 ≤ 230 := rn_len HR4.out (num_p he224 (by omega))
      obtain ⟨x4, hx4⟩ : ∃ x, w4.alloc (.cells #[.bool s4, .slice A4 n4 c4] 25) = x := ⟨_, rfl⟩
      have HX4 := Lib.hid (show Below wr.heap.size wr x4.drew by rw [← hx4]; exact (HB4.out.alloc HB4.out.size _).drew)
      have HP4 := Lib.hid (show P2 25 x4.drew w4.heap.size (.bool s4) (.slice A4 n4 c4) by rw [← hx4]; exact P2.lit _ _ _ _)
      have HR5 := Lib.hid (show RN x4.drew s4 A4 n4 c4 (((2 ^ e2 : Nat) : Int) * m4) by rw [← hx4]; exact ⟨HR4.out.1, HR4.out.2.1, (HR4.out.2.2.alloc _).drew⟩)
      have HO5 := Lib.hid (show P2 25 x4.drew (w.heap.size + 1) (.bool s) (.slice A n c) from HO1.out.new HX4.out)
      have HR6 := Lib.hid (show RN x4.drew s A n c x from HR1.out.new HX4.out)
      have HG4 := Lib.hid (show wr.heap.size ≤ w4.heap.size from HB4.out.size)
      have hn0 : n ≤ 240 := rn_len HR1.out (num_x HX.out hi)
      obtain ⟨d5, hd5⟩ : ∃ d : Int, z / 315 % 5 - 2 = d := ⟨_, rfl⟩
      have hd5b : -2 ≤ d5 ∧ d5 ≤ 2 := by omega
      have HW5 := Lib.hid (show IntKind.i64.wrap ((IntKind.i64.wrap (z.tdiv 315)).tmod 5 - 2) = d5 by
        rw [IntWalk.i64_quo z 315 ⟨hz1, by omega, by decide⟩, Int.tmod_eq_emod_of_nonneg (by omega), IntWalk.i64_in _ (by omega)]
        exact hd5)
      have HWF := Lib.hid (show (Lit.int .i64 (z / 315 % 5 - 2)).wf = true from WalkArith.wf_i64 (by omega))
      have HWFd := Lib.hid (show (Lit.int .i64 d5).wf = true from WalkArith.wf_i64 (by omega))
      have HST := Lib.hid (num_step (x := x) (m := m4) (d := d5) he224 (by omega) (by omega) HX.out)
      obtain ⟨o50, o51⟩ := HO5.out.cells
      obtain ⟨p50, p51⟩ := HP4.out.cells
      obtain ⟨y5, hy5⟩ : ∃ y, ((2 ^ e2 : Nat) : Int) * m4 = y := ⟨_, rfl⟩
      rw [hy5] at HR5 HST
      clear HR4 HR3 HR23 HR2 HB2 HB3
      go_wp2_with fail
      have HY7 := Lib.hid (num_yd (d := d5) (num_p (m := m4) he224 (by omega)) (by omega))
      rw [hy5] at HY7
      clear hy5
      go_region_with (first | (go_at_call 21; rw [HW5.out]; refine (of_any d5 _ HWFd.out).mono ?_; rintro e w6 ⟨s6, A6, n6, c6, rfl, hr6, hb6⟩; have hn6 : n6 ≤ 4 := rn_len hr6 (by omega); have HR16 := Lib.hid (HR5.out.new hb6); have HO6 := Lib.hid (HO5.out.new hb6); have HP6 := Lib.hid (HP4.out.new hb6); have HB6 := Lib.hid (bt HX4.out hb6); obtain ⟨o60, o61⟩ := HO6.out.cells; obtain ⟨p60, p61⟩ := HP6.out.cells; have HR66 := Lib.hid hr6; clear hr6 hb6) | (go_at_call_of 25 s4; refine (add_any y5 d5 s4 s6 A4 A6 n4 c4 n6 c6 _ HR16.out HR66.out (by omega) (by omega)).mono ?_; rintro e w7 ⟨s7, A7, n7, c7, rfl, hr7, hb7⟩; have hn7 : n7 ≤ 250 := rn_len hr7 HY7.out; have HO7 := Lib.hid (HO6.out.new hb7); have HB7 := Lib.hid (bt HB6.out hb7); obtain ⟨o70, o71⟩ := HO7.out.cells; have HR77 := Lib.hid hr7; clear hr7 hb7) | (go_at_call 25; refine (add_any x (y5 + d5) s s7 A A7 n c n7 c7 _ (HR1.out.new HB7.out) HR77.out (by omega) (by omega)).mono ?_; rintro e w8 ⟨s8, A8, n8, c8, rfl, hr8, hb8⟩; have HO8 := Lib.hid (HO7.out.new hb8); have HB8 := Lib.hid (bt HB7.out hb8); obtain ⟨o80, o81⟩ := HO8.out.cells; have of0 := HO8.out.frozen 0; have of1 := HO8.out.frozen 1; have HR8 := Lib.hid hr8; clear hr8 hb8))
      all_goals
        go_wp2
        go_roundw
        case rel => exact ⟨i + 1, _, s8, A8, n8, c8, by go_num, by omega, HST.out, (HZ1.out.new HB8.out).far2 (by omega) _ _, HO8.out.all _ _, HR8.out.box HO8.out rfl rfl _ _, below_box (HB1.out.trans (HB8.out.mono HB1.out.size)) (by omega) _ _⟩
        case measure => simp [intOf]; omega
    · obtain ⟨z0, z1⟩ := HZ1.out.cells
      have f0 := HZ1.out.frozen 0
      have f1 := HZ1.out.frozen 1
      go_wp2_with fail
      exact bodyPost_ret (results_cell_row rfl _ _ _ _ _ _ _ rfl (HZ1.out.all (.bool s) (.slice A n c)) Try.underlying25 rfl N_size) rfl ⟨x, s, A, n, c, rfl, HR1.out.box HZ1.out rfl rfl _ _, num_x HX.out hi, below_box HB1.out (Nat.le_refl _) _ _⟩
end Go.Proofs.Ytpcliampffeknaa
