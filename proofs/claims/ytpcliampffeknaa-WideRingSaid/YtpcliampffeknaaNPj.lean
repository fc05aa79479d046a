/- The contract of the program's Parse. -/
import Derived.Test.YtpcliampffeknaaNPi
namespace Go.Proofs.Ytpcliampffeknaa
open Go.RowKit
attribute [local go_sem ↓] Go.wp_at_zero Go.wp_at_succ
attribute [local go_sem] str_get

/-- A text of an integer. -/
def isNum (l : List UInt8) : Bool := isDecB (cutL l) && !(cutB l && (cutL l == [48]))
def numOf (l : List UInt8) : Int := sgn (cutB l) (dval (cutL l))
/-- What Parse returns. -/
def psV (l : List UInt8) : Int := if 5000 < l.length then 0 else if isNum l = true then outV (numOf l) else 0
def psC (l : List UInt8) : Int := if 5000 < l.length then 4 else if isNum l = true then outC (numOf l) else 2

/-- The state of the loop: i bytes are read, m of them not yet laid into the words. -/
def GrpInv (D : List UInt8) (i b g : Nat) (o : List Nat) : Prop := val 4294967296 o * b + g = dval (D.take i) ∧ g < b ∧ (∃ m, m ≤ 8 ∧ b = 10 ^ m) ∧ (i = D.length → b = 1)
theorem pow_le8 {m : Nat} (h : m ≤ 8) : 0 < 10 ^ m ∧ 10 ^ m ≤ 100000000 ∧ (10 ^ m * 10 = 1000000000 → m = 8) ∧ (¬ 10 ^ m * 10 = 1000000000 → m ≤ 7) := by
  have : m = 0 ∨ m = 1 ∨ m = 2 ∨ m = 3 ∨ m = 4 ∨ m = 5 ∨ m = 6 ∨ m = 7 ∨ m = 8 := by omega
  rcases this with rfl | rfl | rfl | rfl | rfl | rfl | rfl | rfl | rfl <;> decide
theorem GrpInv.start (D : List UInt8) : GrpInv D 0 1 0 [] := ⟨rfl, by decide, ⟨0, by decide, rfl⟩, fun _ => rfl⟩
theorem GrpInv.bound {D : List UInt8} {i b g : Nat} {o : List Nat} (h : GrpInv D i b g o) : 0 < b ∧ b ≤ 100000000 ∧ g < b := by
  obtain ⟨_, h2, ⟨m, hm, rfl⟩, _⟩ := h
  have := pow_le8 hm
  exact ⟨this.1, this.2.1, h2⟩
theorem GrpInv.done {D : List UInt8} {b g : Nat} {o : List Nat} (h : GrpInv D D.length b g o) : val 4294967296 o = dval D := by
  obtain ⟨h1, h2, _, h4⟩ := h
  have := h4 rfl
  subst this
  rw [List.take_length] at h1
  omega
theorem take_dval {D : List UInt8} {i c : Nat} (hi : i < D.length) (hc : (D[i]'hi).toNat = 48 + c) : dval (D.take (i + 1)) = 10 * dval (D.take i) + c := by
  rw [List.take_succ_eq_append_getElem hi, dval_snoc, hc]
  omega
theorem GrpInv.next {D : List UInt8} {i b g c : Nat} {o : List Nat} (h : GrpInv D i b g o) (hi : i < D.length) (hc : (D[i]'hi).toNat = 48 + c) (hc9 : c ≤ 9) (h9 : ¬ b * 10 = 1000000000) (hl : ¬ i = D.length - 1) : GrpInv D (i + 1) (b * 10) (g * 10 + c) o := by
  obtain ⟨h1, h2, ⟨m, hm, rfl⟩, _⟩ := h
  have h8 := (pow_le8 hm).2.2.2 h9
  refine ⟨?_, by omega, ⟨m + 1, by omega, by rw [Nat.pow_succ]⟩, fun e => by omega⟩
  rw [take_dval hi hc, ← h1, Nat.mul_add, Nat.mul_comm 10 (_ * _), Nat.mul_assoc]
  omega
theorem GrpInv.flush {D : List UInt8} {i b g c : Nat} {o o' : List Nat} (h : GrpInv D i b g o) (hi : i < D.length) (hc : (D[i]'hi).toNat = 48 + c) (ho : val 4294967296 o' = val 4294967296 o * (b * 10) + (g * 10 + c)) : GrpInv D (i + 1) 1 0 o' := by
  obtain ⟨h1, _, _, _⟩ := h
  refine ⟨?_, by decide, ⟨0, by decide, rfl⟩, fun _ => rfl⟩
  rw [take_dval hi hc, ← h1, ho, Nat.mul_add, Nat.mul_comm 10 (_ * _), Nat.mul_assoc]
  omega
theorem dig_byte {D : List UInt8} (h : IsDig D) {i : Nat} (hi : i < D.length) : ∃ c, c ≤ 9 ∧ (D[i]'hi).toNat = 48 + c := by
  have := h (D[i]'hi) (List.getElem_mem hi)
  exact ⟨(D[i]'hi).toNat - 48, by omega, by omega⟩
theorem cutL_len (l : List UInt8) : (cutL l).length ≤ l.length := by
  unfold cutL
  split
  · rw [List.length_drop]; omega
  · omega

set_option maxRecDepth 100000 in
set_option maxHeartbeats 3200000 in
theorem pparse_any (l : List UInt8) (w : World) (hn : l.length ≤ 100000) :
    Calls Try.prog 14 #[.string ⟨l.toArray⟩] w (RetPE (psV l) (psC l) w) := by
  obtain ⟨W, hW⟩ : ∃ W, w.alloc (.cells #[.bool false, .slice none 0 0] 33) = W := ⟨_, rfl⟩
  have HK := Lib.hid (show Below w.heap.size w W by rw [← hW]; exact (Below.refl _ w).alloc (Nat.le_refl _) _)
  have HP := Lib.hid (show P2 33 W w.heap.size (.bool false) (.slice none 0 0) by rw [← hW]; exact P2.lit _ _ _ _)
  by_cases hbig : 5000 < l.length
  · rw [show psV l = 0 from if_pos hbig, show psC l = 4 from if_pos hbig]
    have hb' : (5000 : Int) < l.length := by omega
    obtain ⟨q0, q1⟩ := HP.out.cells
    have fq0 := HP.out.frozen 0
    have fq1 := HP.out.frozen 1
    go_enter Try.func14, Try.ntmps14
    go_wp2_with fail
    exact bodyPost_ret (results_cell1 rfl _ _ _ _ _ _ _ rfl (HP.out.all (.bool false) (.slice none 0 0)) Try.underlying33 rfl W_size) rfl (RetPE.stored (PI.zero W) HP.out rfl rfl HK.out (by omega) _ _)
  · have hb' : ¬ (5000 : Int) < l.length := by omega
    have hSL := cutL_len l
    have HN := Lib.hid (show isNum l = (isDecB (cutL l) && !(cutB l && (cutL l == [48]))) from rfl)
    have HO := Lib.hid (show numOf l = sgn (cutB l) (dval (cutL l)) from rfl)
    have HT := Lib.hid (cut_any l W hn)
    have HI := Lib.hid (fun w' => isdec_any (cutL l) w' (by omega))
    have HDD := Lib.hid (fun h => (isDecB_dig (l := cutL l) h).1)
    obtain ⟨S, hS⟩ : ∃ S, cutL l = S := ⟨_, rfl⟩
    obtain ⟨mi, hmi⟩ : ∃ mi, cutB l = mi := ⟨_, rfl⟩
    obtain ⟨z, hz⟩ : ∃ z, (S == [48]) = z := ⟨_, rfl⟩
    obtain ⟨di, hdi⟩ : ∃ di, isDecB S = di := ⟨_, rfl⟩
    rw [hS, hmi] at HT HO
    rw [hS, hmi, hz, hdi] at HN
    rw [hS] at HI HDD hSL
    rw [hdi] at HI HDD
    clear hS hmi hdi
    by_cases hok : (di && !(mi && z)) = true
    · have HVV := Lib.hid (show psV l = outV (numOf l) by rw [psV, if_neg hbig, if_pos (HN.out.trans hok)])
      have HCC := Lib.hid (show psC l = outC (numOf l) by rw [psC, if_neg hbig, if_pos (HN.out.trans hok)])
      have hdi1 : di = true := by cases di <;> simp_all
      subst hdi1
      have hmz : (mi && z) = false := by cases mi <;> cases z <;> simp_all
      rw [HVV.out, HCC.out, HO.out]
      have HDG := Lib.hid (HDD.out rfl)
      have hSn : S.length ≤ 5000 := by omega
      clear hok hbig hn hSL HDD HVV HCC HO HN
      rcases (show mi = false ∨ (mi = true ∧ z = false) by cases mi <;> cases z <;> simp_all) with rfl | ⟨rfl, rfl⟩
      all_goals
        clear hmz
        go_enter Try.func14, Try.ntmps14
        go_wp2_with fail
        refine HT.out.mono ?_
        rintro e w1 ⟨rfl, hb1⟩
        have HB1 := Lib.hid hb1
        clear hb1
        go_wp2_with fail
        refine (HI.out w1).mono ?_
        rintro e w2 ⟨rfl, hb2⟩
        have HB2 := Lib.hid (HB1.out.trans (hb2.mono HB1.out.size))
        clear hb2
        go_wp2_with fail
        go_loopw [6, 7, 8, 32] (fun v g b i wr => ∃ (j b' g' k c' : Nat) (A' : Option Addr) (o : List Nat), j ≤ S.length ∧ i = .int .i64 j ∧ v = .slice A' k c' ∧ g = .int .u32 g' ∧ b = .int .u32 b' ∧ k ≤ j ∧ GrpInv S j b' g' o ∧ Dig 4294967296 o ∧ LI .u32 wr (.slice A' k c') o ∧ Below W.heap.size W wr) (fun _ _ _ i _ => S.length - (intOf i).toNat)
        case atStart => exact ⟨0, 1, 0, 0, 0, none, [], by omega, rfl, rfl, rfl, rfl, by omega, GrpInv.start S, dig_nil, LO.nil, HB2.out⟩
        case round =>
          obtain ⟨j, b', g', k, c', A', o, hj, rfl, rfl, rfl, rfl, hkj, hinv, hdo, hlo, hbw⟩ := hrel
          have HINV := Lib.hid hinv
          have HDO := Lib.hid hdo
          have HLO := Lib.hid hlo
          have HBW := Lib.hid hbw
          clear hinv hdo hlo hbw
          obtain ⟨hb0, hb9, hgb⟩ := HINV.out.bound
          rcases Nat.lt_or_ge j S.length with hlt | hge
          · obtain ⟨d, hd9, hd⟩ := dig_byte HDG.out hlt
            have HD := Lib.hid hd
            have hd1 : ((S[j]'hlt).toNat : Int) = 48 + d := by omega
            clear hd
            have key : b' = 100000000 ∨ ¬ (b' : Int) * 10 = 1000000000 := by omega
            rcases key with rfl | k1
            · go_wp2_with fail
              rw [show ((g' : Int) * 10 + (48 + (d : Int) - 48)) = ((g' * 10 + d : Nat) : Int) by omega, show (1000000000 : Int) = ((100000000 * 10 : Nat) : Int) from rfl]
              refine (times_any o A' k c' (100000000 * 10) (g' * 10 + d) wr HDO.out HLO.out (by omega) (by omega) (by omega)).mono ?_
              rintro e w5 ⟨G5, n5, o5, rfl, hg5, hblk5, hol5, hod5, ⟨hov5, hon5⟩, hb5⟩
              have HN5 := Lib.hid (HINV.out.flush hlt HD.out hov5)
              have HL5 := Lib.hid (hblk5.li0 hol5 (Nat.le_refl _)).weak
              have HD5 := Lib.hid hod5
              have HB5 := Lib.hid (HBW.out.trans (hb5.mono HBW.out.size))
              have hlk := HLO.out.len.1
              have hn5 : n5 ≤ j + 1 := by omega
              clear hblk5 hol5 hod5 hov5 hon5 hb5 hlk
              go_wp2
              go_roundw
              case rel => exact ⟨j + 1, 1, 0, n5, n5, _, o5, by omega, by go_num, rfl, rfl, rfl, hn5, HN5.out, HD5.out, HL5.out, HB5.out⟩
              case measure => simp [intOf]; omega
            · go_wp2_with fail
              · rw [show ((g' : Int) * 10 + (48 + (d : Int) - 48)) = ((g' * 10 + d : Nat) : Int) by omega, show ((b' : Int) * 10) = ((b' * 10 : Nat) : Int) by omega]
                refine (times_any o A' k c' (b' * 10) (g' * 10 + d) wr HDO.out HLO.out (by omega) (by omega) (by omega)).mono ?_
                rintro e w5 ⟨G5, n5, o5, rfl, hg5, hblk5, hol5, hod5, ⟨hov5, hon5⟩, hb5⟩
                have HN5 := Lib.hid (HINV.out.flush hlt HD.out hov5)
                have HL5 := Lib.hid (hblk5.li0 hol5 (Nat.le_refl _)).weak
                have HD5 := Lib.hid hod5
                have HB5 := Lib.hid (HBW.out.trans (hb5.mono HBW.out.size))
                have hlk := HLO.out.len.1
                have hn5 : n5 ≤ j + 1 := by omega
                clear hblk5 hol5 hod5 hov5 hon5 hb5 hlk
                go_wp2
                go_roundw
                case rel => exact ⟨j + 1, 1, 0, n5, n5, _, o5, by omega, by go_num, rfl, rfl, rfl, hn5, HN5.out, HD5.out, HL5.out, HB5.out⟩
                case measure => simp [intOf]; omega
              · have hc : ¬ (j : Int) = S.length - 1 := beq_eq_false_iff_ne.1 (by assumption : ((b' : Int) * 10 == 1000000000) = false ∧ ((j : Int) == (S.length : Int) - 1) = false).2
                have HN5 := Lib.hid (HINV.out.next hlt HD.out hd9 (by omega) (by omega))
                go_roundw
                case rel => exact ⟨j + 1, b' * 10, g' * 10 + d, k, c', A', o, by omega, by go_num, rfl, by go_num, by go_num, by omega, HN5.out, HDO.out, HLO.out, HBW.out⟩
                case measure => simp [intOf]; omega
          · obtain rfl : S.length = j := by omega
            have HV := Lib.hid HINV.out.done
            clear hb0 hb9 hgb HINV
            go_wp2_with fail
            refine (signed_any _ o A' k c' wr HDO.out HLO.out (by omega)).mono ?_
            rw [HV.out]
            rintro e w5 ⟨s5, A5, n5, c5, rfl, hr5, hb5⟩
            have hn5 : n5 ≤ k := by
              have := hr5.2.1
              rw [sgn_abs, ← HV.out] at this
              rw [← this, ← HLO.out.len.1]
              exact digs_len_le (by decide) (val_lt (by decide) HDO.out)
            have HR5 := Lib.hid hr5
            have HB5 := Lib.hid (HBW.out.trans (hb5.mono HBW.out.size))
            clear hr5 hb5
            go_wp2_with fail
            refine (inRange_any _ s5 A5 n5 c5 w5 HR5.out (by omega)).mono ?_
            rintro e w6 ⟨s6, A6, n6, c6, rfl, hr6, hb6⟩
            have HR6 := Lib.hid hr6
            have HB6 := Lib.hid (HB5.out.trans (hb6.mono HB5.out.size))
            clear hr6 hb6
            have HP2 := Lib.hid (HP.out.new HB6.out)
            obtain ⟨q0, q1⟩ := HP2.out.cells
            have fq0 := HP2.out.frozen 0
            have fq1 := HP2.out.frozen 1
            go_wp2_with fail
            exact bodyPost_ret (results_cell1 rfl _ _ _ _ _ _ _ rfl (HP2.out.all (.bool s6) (.slice A6 n6 c6)) Try.underlying33 rfl W_size) rfl (RetPE.stored HR6.out HP2.out rfl rfl (HK.out.trans (HB6.out.mono HK.out.size)) (by omega) _ _)
    · have HVV := Lib.hid (show psV l = 0 by rw [psV, if_neg hbig, if_neg (by rw [HN.out]; exact hok)])
      have HCC := Lib.hid (show psC l = 2 by rw [psC, if_neg hbig, if_neg (by rw [HN.out]; exact hok)])
      rw [HVV.out, HCC.out]
      have hok' : di = false ∨ (di = true ∧ mi = true ∧ z = true) := by cases di <;> cases mi <;> cases z <;> simp_all
      clear hok hbig hn
      rcases hok' with rfl | ⟨rfl, rfl, rfl⟩
      all_goals
        go_enter Try.func14, Try.ntmps14
        go_wp2_with fail
        refine HT.out.mono ?_
        rintro e w1 ⟨rfl, hb1⟩
        have HB1 := Lib.hid hb1
        clear hb1
        go_wp2_with fail
        refine (HI.out w1).mono ?_
        rintro e w2 ⟨rfl, hb2⟩
        have HB2 := Lib.hid (HB1.out.trans (hb2.mono HB1.out.size))
        clear hb2
        have HP2 := Lib.hid (HP.out.new HB2.out)
        obtain ⟨q0, q1⟩ := HP2.out.cells
        have fq0 := HP2.out.frozen 0
        have fq1 := HP2.out.frozen 1
        go_wp2_with fail
        exact bodyPost_ret (results_cell1 rfl _ _ _ _ _ _ _ rfl (HP2.out.all (.bool false) (.slice none 0 0)) Try.underlying33 rfl W_size) rfl (RetPE.stored (PI.zero w2) HP2.out rfl rfl (HK.out.trans (HB2.out.mono HK.out.size)) (by omega) _ _)
end Go.Proofs.Ytpcliampffeknaa
