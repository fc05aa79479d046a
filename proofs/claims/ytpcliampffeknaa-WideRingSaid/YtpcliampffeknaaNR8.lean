/- Contracts of the reference's small, divided, Div. -/
import Derived.Test.YtpcliampffeknaaNR7
namespace Go.Proofs.Ytpcliampffeknaa
open Go.RowKit
attribute [local go_sem ↓] Go.wp_at_zero Go.wp_at_succ

/-- What a function returns that returns the digits of a number. -/
def RetX (v : Nat) (w : World) (e : Ending) (w' : World) : Prop := ∃ A n c, e = .returned (.slice A n c) ∧ LI .i64 w' (.slice A n c) (digs 10000 v) ∧ (digs 10000 v).length = n ∧ Below w.heap.size w w'
theorem RN.of_nat {w : World} {A : Option Addr} {n c : Nat} {v : Nat} (h : LI .i64 w (.slice A n c) (digs 10000 v)) : RN w false A n c (v : Int) :=
  ⟨(decide_eq_false (by omega)).symm, by rw [Int.natAbs_natCast]; exact h.len.1, by rw [Int.natAbs_natCast]; exact h⟩
theorem wf_small {k : Nat} (h : k ≤ 1000000) : (Lit.int .i64 (k : Int)).wf = true := WalkArith.wf_i64 (by omega)
set_option maxRecDepth 100000 in
set_option maxHeartbeats 1600000 in
theorem small_any (x k : Nat) (A : Option Addr) (n c : Nat) (w : World) (h : LI .i64 w (.slice A n c) (digs 10000 x)) (hn : n ≤ 300000) (hk : k ≤ 9999) :
    Calls Try.prog 75 #[.slice A n c, .int .i64 (k : Int)] w (RetX (x * k) w) := by
  have HL := Lib.hid h
  have HW := Lib.hid (wf_small (k := k) (by omega))
  have HK4 := Lib.hid (digs_len_le (B := 10000) (n := k) (k := 1) (by decide) (by omega))
  clear h
  go_enter Try.func75, Try.ntmps75
  go_wp2_with fail
  refine (of_any (k : Int) w HW.out).mono ?_
  rintro e w4 ⟨neg4, A4, n4, c4, rfl, hrn4, hb4⟩
  have HR4 := Lib.hid hrn4
  have HB4 := Lib.hid hb4
  have HN4 := Lib.hid (show n4 ≤ 1 by have := hrn4.2.1; rw [Int.natAbs_natCast] at this; rw [← this]; exact HK4.out)
  clear hrn4 hb4
  go_wp2_with fail
  refine (mul_any (x : Int) (k : Int) false neg4 A A4 n c n4 c4 w4 (RN.of_nat (HL.out.new HB4.out)) HR4.out (by omega) (by have := HN4.out; omega)).mono ?_
  rintro e w6 ⟨neg6, A6, n6, c6, rfl, hrn6, hb6⟩
  have e1 : ((x : Int) * (k : Int)).natAbs = x * k := by rw [Int.natAbs_mul, Int.natAbs_natCast, Int.natAbs_natCast]
  obtain ⟨h61, h62, h63⟩ := hrn6
  rw [e1] at h62 h63
  have HN6 := Lib.hid h62
  have HL6 := Lib.hid h63
  have HB6 := Lib.hid (HB4.out.trans (hb6.mono HB4.out.size))
  clear h61 h62 h63 hb6 e1
  go_wp2
  go_ret
  exact ⟨A6, n6, c6, rfl, HL6.out.alloc _, HN6.out, HB6.out.alloc HB6.out.size _⟩

/-- What divided returns. -/
def RetQ (q r : Nat) (w : World) (e : Ending) (w' : World) : Prop := ∃ A1 n1 c1 A2 n2 c2 o, e = .returned (.tuple #[.slice A1 n1 c1, .slice A2 n2 c2]) ∧ LI .i64 w' (.slice A1 n1 c1) o ∧ Dig 10000 o ∧ n1 ≤ 200000 ∧ val 10000 o = q ∧ LI .i64 w' (.slice A2 n2 c2) (digs 10000 r) ∧ (digs 10000 r).length = n2 ∧ Below w.heap.size w w'
theorem digs_cons (d r : Nat) : val 10000 (d :: digs 10000 r) = d + 10000 * r := by rw [val, val_digs (by decide)]
theorem dig_cons_digs {d r : Nat} (hd : d < 10000) : Dig 10000 (d :: digs 10000 r) := dig_cons.2 ⟨hd, dig_digs (by decide) r⟩
theorem sgn_false (v : Nat) : sgn false v = (v : Int) := rfl
theorem boxed_new (t : TypeId) (w : World) (v0 v1 : Value) : (w.alloc (.cells #[v0, v1] t)).cell? ⟨w.heap.size, 1, none⟩ = some v1 := (P2.lit w t v0 v1).cells.2

set_option maxRecDepth 100000 in
set_option maxHeartbeats 3200000 in
theorem divided_any (x b : Nat) (A A' : Option Addr) (n n' c c' : Nat) (w : World) (hb : 0 < b) (hx : LI .i64 w (.slice A n c) (digs 10000 x)) (hy : LI .i64 w (.slice A' n' c') (digs 10000 b)) (hn : n ≤ 200000) (hn' : n' ≤ 200000) :
    Calls Try.prog 63 #[.slice A n c, .slice A' n' c'] w (RetQ (x / b) (x % b) w) := by
  obtain ⟨i0, hi0, hz0, hz1, hz2⟩ := info_parts int_info
  have HNX := Lib.hid hx.len.1
  have HNY := Lib.hid hy.len.1
  have HLX := Lib.hid hx
  have HLY := Lib.hid hy
  have HDX := Lib.hid (dig_digs (B := 10000) (by decide) x)
  have HVX := Lib.hid (val_digs (B := 10000) (by decide) x)
  have HLTB := Lib.hid (digs_lt (B := 10000) (by decide) b)
  clear hx hy
  generalize digs 10000 x = la at HNX HLX HDX HVX
  go_enter Try.func63, Try.ntmps63
  go_wp2_with (at_make; refine wpList_make_blk _ rfl _ _ 22 rfl 3 i0 .i64 8 Try.underlying22 hi0 hz0 hz1 hz2 n _ rfl rfl rfl (by decide) (by omega) ?_; intro w2 hblk hb2)
  obtain ⟨G, hG⟩ : ∃ G, w.heap.size = G := ⟨_, rfl⟩
  rw [hG] at hblk hb2 ⊢
  have HGG := Lib.hid hG
  have HBLK := Lib.hid hblk
  have HB2 := Lib.hid hb2
  clear hG hblk hb2
  go_loopw [8, 7] (fun i v wr => ∃ (z : Int) (A2 : Option Addr) (k2 c2 r : Nat) (oq : List Nat), -1 ≤ z ∧ z < (n : Int) ∧ i = .int .i64 z ∧ v = .slice A2 k2 c2 ∧ LI .i64 wr (.slice A2 k2 c2) (digs 10000 r) ∧ r < b ∧ oq.length = n ∧ Dig 10000 oq ∧ val 10000 (la.drop (z + 1).toNat) = val 10000 (oq.drop (z + 1).toNat) * b + r ∧ Blk .i64 wr G 3 oq ∧ Below G w wr) (fun i _ _ => (intOf i + 1).toNat)
  case atStart =>
    refine ⟨(n : Int) - 1, none, 0, 0, 0, List.replicate n 0, by omega, by omega, rfl, rfl, by rw [digs_zero]; exact LO.nil, hb, by simp, dig_zeros (by decide) n, ?_, HBLK.out, HB2.out⟩
    rw [List.drop_of_length_le (by rw [HNX.out]; omega), List.drop_of_length_le (by rw [List.length_replicate]; omega)]
    simp [val]
  case round =>
    obtain ⟨z, A2, k2, c2, r, oq, hz1', hz2', rfl, rfl, hlr, hrb, hql, hqd, hval, hblk, hbel⟩ := hrel
    have HLR := Lib.hid hlr
    have HQL := Lib.hid hql
    have HQD := Lib.hid hqd
    have HVL := Lib.hid hval
    have HBK := Lib.hid hblk
    have HBB := Lib.hid hbel
    have HRB := Lib.hid hrb
    have HK2 := Lib.hid hlr.len.1
    clear hlr hql hqd hval hblk hbel hrb
    by_cases hz : 0 ≤ z
    · obtain ⟨j, rfl⟩ : ∃ j : Nat, z = (j : Int) := ⟨z.toNat, by omega⟩
      have HBBw := Lib.hid (show Below w.heap.size w wr by rw [HGG.out]; exact HBB.out)
      obtain ⟨b1, o1, rfl, hb1, hx1⟩ := (HLX.out.new HBBw.out).at_ (j := j) (by omega)
      have hk2 : k2 ≤ n' := by
        rw [← HK2.out, ← HNY.out]
        exact digs_len_mono (by decide) (Nat.le_of_lt HRB.out)
      have d1 := dig_getD (B := 10000) (by decide) HDX.out j
      have HVD := Lib.hid (val_drop (B := 10000) la j)
      have HVQ := Lib.hid (show val 10000 (la.drop (j + 1)) = val 10000 (oq.drop (j + 1)) * b + r from HVL.out)
      generalize la.getD j 0 = x0 at hx1 d1 HVD
      obtain ⟨X, hX⟩ : ∃ X : Int, (x0 : Int) = X := ⟨_, rfl⟩
      rw [hX] at hx1
      have HX := Lib.hid hX
      have HD1 := Lib.hid d1
      clear hX d1 HVL
      have hj0 : (0 : Int) ≤ (j : Int) := by omega
      have hjn : (j : Int) < (n : Int) := by omega
      have HO2 := Lib.hid (show 1 + k2 ≤ maxLen by unfold maxLen; omega)
      have HO3 := Lib.hid (show (1 + k2) * 8 ≤ 140737488355328 by omega)
      have HLit := Lib.hid (own_lit .i64 wr 3 [X] (by unfold maxLen; simp))
      have HLR1 := Lib.hid (HLR.out.alloc (.cells #[.int .i64 X] 3))
      go_wp2_with (at_builtin; refine wpList_append_in rfl _ _ 22 rfl wr.heap.size 3 i0 (.int .i64 0) 8 Try.underlying22 hi0 hz0 hz1 hz2 rfl _ _ _ rfl HLit.out .i64 _ _ _ _ _ rfl HLR1.out HO2.out HO3.out (by simp) ?_; intro v' w3 hown' hgrow)
      obtain ⟨A3, C3, rfl⟩ := own_form hown'
      have HW3 := Lib.hid (show w3.ownsRow wr.heap.size 3 1 (.slice A3 (1 + k2) C3) (1 + k2) (vs .i64 (nI (x0 :: digs 10000 r))) by
        rw [nI, List.map_cons, vs, List.map_cons, HX.out]
        exact hown')
      have HB3 := Lib.hid (((Below.refl wr.heap.size wr).alloc (Nat.le_refl _) (.cells (vs .i64 [X]).toArray 3)).grown hgrow (by simp) (own_block_ge HLit.out))
      clear hown' hgrow
      go_wp2_with fail
      refine (normal_any false (x0 :: digs 10000 r) A3 (1 + k2) C3 w3 (dig_cons_digs HD1.out) (LI.own HW3.out) (by omega)).mono ?_
      rw [digs_cons, sgn_false]
      rintro e w4 ⟨neg4, A4, n4, c4, rfl, ⟨hs4, hn4, hl4⟩, hb4⟩
      clear hs4
      rw [Int.natAbs_natCast] at hn4 hl4
      obtain ⟨x1, hx1e⟩ : ∃ x1, x0 + 10000 * r = x1 := ⟨_, rfl⟩
      rw [hx1e] at hn4 hl4
      have HX1 := Lib.hid hx1e
      have HN4 := Lib.hid hn4
      have HL4 := Lib.hid hl4
      have HB4 := Lib.hid (HB3.out.trans (hb4.mono HB3.out.size))
      have HX1B := Lib.hid (show x1 < 10000 * b by have := HD1.out; have := HRB.out; omega)
      clear hx1e hn4 hl4 hb4 HB3 HW3 HLR1 HLit
      go_wp2_with fail
      obtain ⟨w5, hw5⟩ : ∃ w5, w4.alloc (.cells #[.bool neg4, .slice A4 n4 c4] 25) = w5 := ⟨_, rfl⟩
      rw [hw5]
      have HB5 := Lib.hid (show Below wr.heap.size wr w5 by rw [← hw5]; exact HB4.out.alloc HB4.out.size _)
      have HX5 := Lib.hid (show w5.cell? ⟨w4.heap.size, 1, none⟩ = some (.slice A4 n4 c4) by rw [← hw5]; exact boxed_new _ _ _ _)
      have HX5L := Lib.hid (show w4.heap.size < w5.heap.size by rw [← hw5]; simp)
      have HL5 := Lib.hid (show LI .i64 w5 (.slice A4 n4 c4) (digs 10000 x1) by rw [← hw5]; exact HL4.out.alloc _)
      have HLY5 := Lib.hid ((HLY.out.new HBBw.out).new HB5.out)
      have hn4 : n4 ≤ n' + 1 := by
        rw [← HN4.out]
        refine digs_len_le (by decide) ?_
        have h1 := HX1B.out
        have h2 := HLTB.out
        rw [HNY.out] at h2
        have h3 : 10000 * b ≤ 10000 ^ (n' + 1) := by rw [Nat.pow_succ, Nat.mul_comm]; exact Nat.mul_le_mul_right 10000 (Nat.le_of_lt h2)
        omega
      clear hw5 HL4
      go_loopw [10, 11] (fun lo hi wi => ∃ l h : Nat, l ≤ h ∧ h ≤ 9999 ∧ lo = .int .i64 l ∧ hi = .int .i64 h ∧ l * b ≤ x1 ∧ x1 < (h + 1) * b ∧ Below w5.heap.size w5 wi) (fun lo hi _ => (intOf hi - intOf lo).toNat)
      case atStart => exact ⟨0, 9999, by omega, by omega, rfl, rfl, by omega, by have := HX1B.out; omega, Below.refl _ _⟩
      case round =>
        obtain ⟨l, h, hlh, hh, rfl, rfl, hlo, hhi, hbi⟩ := hrel
        have HLO := Lib.hid hlo
        have HHI := Lib.hid hhi
        have HBI := Lib.hid hbi
        clear hlo hhi hbi
        by_cases hlt : l < h
        · obtain ⟨m, hm⟩ : ∃ m : Nat, ((l : Int) + (h : Int) + 1) / 2 = (m : Int) := ⟨(l + h + 1) / 2, by omega⟩
          have hm1 : l < m := by omega
          have hm2 : m ≤ h := by omega
          have HM := Lib.hid (small_any b m A' n' c' _ (HLY5.out.new HBI.out) (by omega) (by omega))
          obtain ⟨v, hv⟩ : ∃ v, cmpN (b * m) x1 = v := ⟨_, rfl⟩
          have HV := Lib.hid hv
          clear hv
          have HN6 := Lib.hid (show (digs 10000 (b * m)).length ≤ n' + 1 by
            refine digs_len_le (by decide) ?_
            have h2 := HLTB.out
            rw [HNY.out] at h2
            exact mul_lt_pow (n := 1) h2 (by omega))
          by_cases hle : b * m ≤ x1
          · have hv0 : v ≤ 0 := by rw [← HV.out]; unfold cmpN; split <;> (try split) <;> omega
            have HLE := Lib.hid hle
            clear hle
            go_wp2_with fail
            refine HM.out.mono ?_
            rintro e w6 ⟨A6, n6, c6, rfl, hl6, hn6, hb6⟩
            have hn6' : n6 ≤ n' + 1 := by
              rw [← hn6]
              exact HN6.out
            have HL6 := Lib.hid hl6
            have HB6 := Lib.hid (HBI.out.trans (hb6.mono HBI.out.size))
            clear hl6 hn6 hb6
            go_wp2_with fail
            refine (compared_any (b * m) x1 A6 A4 n6 n4 c6 c4 w6 HL6.out (HL5.out.new HB6.out) (by omega) (by omega)).mono ?_
            rw [HV.out]
            rintro e w7 ⟨rfl, hb7⟩
            have HB7 := Lib.hid (HB6.out.trans (hb7.mono HB6.out.size))
            clear hb7
            go_wp2
            go_roundw
            case rel => exact ⟨m, h, by omega, by omega, rfl, rfl, by have := HLE.out; rw [Nat.mul_comm]; exact this, HHI.out, HB7.out⟩
            case measure => simp [intOf]; omega
          · have hv0 : ¬ v ≤ 0 := by rw [← HV.out, cmpN, if_neg (by omega), if_pos (by omega)]; decide
            have HLE := Lib.hid hle
            clear hle
            go_wp2_with fail
            refine HM.out.mono ?_
            rintro e w6 ⟨A6, n6, c6, rfl, hl6, hn6, hb6⟩
            have hn6' : n6 ≤ n' + 1 := by
              rw [← hn6]
              exact HN6.out
            have HL6 := Lib.hid hl6
            have HB6 := Lib.hid (HBI.out.trans (hb6.mono HBI.out.size))
            clear hl6 hn6 hb6
            go_wp2_with fail
            refine (compared_any (b * m) x1 A6 A4 n6 n4 c6 c4 w6 HL6.out (HL5.out.new HB6.out) (by omega) (by omega)).mono ?_
            rw [HV.out]
            rintro e w7 ⟨rfl, hb7⟩
            have HB7 := Lib.hid (HB6.out.trans (hb7.mono HB6.out.size))
            clear hb7
            go_wp2
            go_roundw
            case rel => exact ⟨l, m - 1, by omega, by omega, rfl, congrArg _ (by omega), HLO.out, by have := HLE.out; rw [show m - 1 + 1 = m by omega, Nat.mul_comm]; omega, HB7.out⟩
            case measure => simp [intOf]; omega
        · obtain rfl : l = h := by omega
          obtain ⟨hq1, hr1⟩ := half_done HLO.out HHI.out
          have HQ1 := Lib.hid hq1
          have HR1 := Lib.hid hr1
          clear hq1 hr1 hlt hlh
          have HM := Lib.hid (small_any b l A' n' c' _ (HLY5.out.new HBI.out) (by omega) (by omega))
          have HN6 := Lib.hid (show (digs 10000 (b * l)).length ≤ n' + 1 by
            refine digs_len_le (by decide) ?_
            have h2 := HLTB.out
            rw [HNY.out] at h2
            exact mul_lt_pow (n := 1) h2 (by omega))
          go_wp2_with fail
          refine HM.out.mono ?_
          rintro e w6 ⟨A6, n6, c6, rfl, hl6, hn6, hb6⟩
          have hn6' : n6 ≤ n' + 1 := by
            rw [← hn6]
            exact HN6.out
          have HL6 := Lib.hid hl6
          have HB6 := Lib.hid (HBI.out.trans (hb6.mono HBI.out.size))
          clear hl6 hn6 hb6
          go_wp2_with fail
          refine (minus_any _ _ A4 A6 n4 n6 c4 c6 w6 (dig_digs (by decide) x1) (dig_digs (by decide) (b * l)) (HL5.out.new HB6.out) HL6.out (by omega) (by omega) (by rw [val_digs (by decide), val_digs (by decide), Nat.mul_comm]; exact HLO.out)).mono ?_
          rw [val_digs (by decide), val_digs (by decide)]
          rintro e w7 ⟨A7, n7, c7, o7, rfl, hli7, hlo7, hd7, ⟨hv7, hlen7⟩, hb7⟩
          have HB7 := Lib.hid (HB6.out.trans (hb7.mono HB6.out.size))
          have HL7 := Lib.hid (hli7.mono (ok' := (w6.heap.size ≤ ·)) (fun _ _ h => h))
          have HD7 := Lib.hid hd7
          have HV7 := Lib.hid (show val 10000 o7 = x1 % b by rw [hv7, Nat.mul_comm]; exact HR1.out)
          have hn7 : n7 ≤ n' + 1 := by omega
          clear hli7 hlo7 hd7 hv7 hlen7 hb7
          go_wp2_with fail
          refine (normal_ok (w6.heap.size ≤ ·) false o7 A7 n7 c7 w7 HD7.out HL7.out (by omega)).mono ?_
          rw [HV7.out, sgn_false]
          rintro e w8 ⟨neg8, A8, n8, c8, rfl, ⟨hs8, hn8, hl8⟩, hb8⟩
          rw [Int.natAbs_natCast] at hn8 hl8
          have HB8 := Lib.hid (HB7.out.trans (hb8.mono HB7.out.size))
          have HL8 := Lib.hid hl8
          have HN8 := Lib.hid hn8
          clear hs8 hn8 hl8 hb8
          have HBR8 := Lib.hid (HB5.out.trans (HB8.out.mono HB5.out.size))
          obtain ⟨w9, hw9⟩ : ∃ w9, w8.alloc (.cells #[.bool neg8, .slice A8 n8 c8] 25) = w9 := ⟨_, rfl⟩
          have HBR9 := Lib.hid (show Below _ _ w9 by rw [← hw9]; exact HBR8.out.alloc HBR8.out.size _)
          have HBK9 := Lib.hid (HBK.out.new HBR9.out)
          have HX9 := Lib.hid (show w9.cell? ⟨w8.heap.size, 1, none⟩ = some (.slice A8 n8 c8) by rw [← hw9]; exact boxed_new _ _ _ _)
          have HG9 := Lib.hid (show G < w8.heap.size from Nat.lt_of_lt_of_le HBK.out.lt HBR8.out.size)
          have HL9 := Lib.hid (show LO .i64 (G < ·) w9 (.slice A8 n8 c8) (digs 10000 (x1 % b)) by
            rw [← hw9]
            exact (HL8.out.mono (fun b _ hb => Nat.lt_of_lt_of_le (HBK.out.new (HB5.out.trans (HB6.out.mono HB5.out.size))).lt hb)).alloc _)
          have hcell := HBK9.out.cell (i := j) (by have := HQL.out; omega)
          have hfr := HBK9.out.frozen j
          have hne : ¬ (w8.heap.size = G) := by have := HG9.out; omega
          have hnext : (w9.setCell ⟨G, j, none⟩ (.int .i64 (l : Int))).cell? ⟨w8.heap.size, 1, none⟩ = some (.slice A8 n8 c8) := by
            rw [World.cell?_setCell_other _ _ _ _ (fun e => by injection e with e; have := HG9.out; omega)]
            exact HX9.out
          have HST := Lib.hid (HBK9.out.set_ j l)
          go_wp2
          go_roundw
          case rel =>
            refine ⟨(j : Int) - 1, A8, n8, c8, x1 % b, oq.set j l, by omega, by omega, rfl, rfl, ?_, Nat.mod_lt _ hb, by rw [List.length_set]; exact HQL.out, dig_set HQD.out _ _ (by omega), ?_, HST.out, ?_⟩
            · exact (HL9.out.kp (t := (· = G)) ((Kp.refl (· = G) _).setCell (p := ⟨G, j, none⟩) (fun _ => rfl) _) (fun b _ h e => by omega)).weak
            · rw [show ((j : Int) - 1 + 1).toNat = j by omega, HVD.out, HVQ.out, val_drop (oq.set j l) j, List.drop_set_of_lt (by omega), set_getD_eq (by have := HQL.out; omega)]
              have e := div_step (D := val 10000 (oq.drop (j + 1)) * b + r) (x := x0) (t := l) rfl (by rw [HX1.out]; exact HLO.out)
              rw [e, HX1.out, HR1.out]
            · exact ((HBB.out.trans (HBR9.out.mono (Nat.le_of_lt HBK.out.lt)))).setCell (p := ⟨G, j, none⟩) (Nat.le_refl _) _
          case measure => simp [intOf]
    · obtain rfl : z = -1 := by omega
      go_wp2
      go_ret2
      have hv := HVL.out
      rw [show ((-1 : Int) + 1).toNat = 0 by omega, List.drop_zero, List.drop_zero, HVX.out] at hv
      have hq : x / b = val 10000 oq := by
        rw [hv, Nat.add_comm, Nat.add_mul_div_right _ _ hb, Nat.div_eq_of_lt HRB.out, Nat.zero_add]
      have hr : x % b = r := by
        rw [hv, Nat.add_comm, Nat.add_mul_mod_self_right, Nat.mod_eq_of_lt HRB.out]
      rw [hq, hr]
      exact ⟨_, _, _, _, _, _, oq, rfl, (HBK.out.li0 HQL.out (Nat.le_refl _)).weak, HQD.out, hn, rfl, HLR.out, HK2.out, by rw [HGG.out]; exact HBB.out⟩
end Go.Proofs.Ytpcliampffeknaa
