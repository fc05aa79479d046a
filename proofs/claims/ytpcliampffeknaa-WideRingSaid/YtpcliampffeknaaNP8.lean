/- Contracts of the program's words: division by a word, in place. -/
import Derived.Test.YtpcliampffeknaaNP7
namespace Go.Proofs.Ytpcliampffeknaa
open Go.RowKit
attribute [local go_sem ↓] Go.wp_at_zero Go.wp_at_succ

theorem short_step {B D V R x d : Nat} (h : D = V * d + R) : x + B * D = (B * V + (R * B + x) / d) * d + (R * B + x) % d := by
  have := Nat.div_add_mod (R * B + x) d
  rw [h, Nat.add_mul, Nat.mul_add, Nat.mul_assoc, Nat.mul_comm ((R * B + x) / d) d, Nat.add_assoc, this, Nat.mul_comm R B]
  omega
theorem short_q {B R x d : Nat} (hR : R < d) (hx : x < B) (hd : 0 < d) : (R * B + x) / d < B := by
  rw [Nat.div_lt_iff_lt_mul hd]
  have := Nat.mul_le_mul_right B hR
  rw [Nat.succ_mul] at this
  rw [Nat.mul_comm B d]
  omega

set_option maxRecDepth 100000 in
set_option maxHeartbeats 1600000 in
theorem shorten_any (seg T : List Nat) (G n c d : Nat) (w : World) (hblk : Blk .u32 w G 75 (seg ++ T)) (hs : seg.length = n) (hds : Dig 4294967296 seg) (hn : n ≤ 900000) (hd0 : 0 < d) (hd : d < 4294967296) :
    Calls Try.prog 52 #[.slice (some ⟨G, 0, none⟩) n c, .int .u32 (d : Int)] w fun e w' => e = .returned (.int .u32 ((val 4294967296 seg % d : Nat) : Int)) ∧ (∃ r, r.length = n ∧ Dig 4294967296 r ∧ val 4294967296 r = val 4294967296 seg / d ∧ Blk .u32 w' G 75 (r ++ T)) ∧ Kp (· = G) w w' := by
  have HN := Lib.hid hs
  have HDA := Lib.hid hds
  have HBK0 := Lib.hid hblk
  have HD0 := Lib.hid hd0
  have HDL := Lib.hid hd
  obtain ⟨D, hD⟩ : ∃ D : Int, (d : Int) = D := ⟨_, rfl⟩
  rw [hD]
  have hD1 : 1 ≤ D := by omega
  have hD2 : D < 4294967296 := by omega
  have HD := Lib.hid hD
  clear hs hds hblk hd0 hd hD
  go_enter Try.func52, Try.ntmps52
  go_wp2_with fail
  go_loopw [5, 6] (fun v i wr => ∃ (z : Int) (R : Nat) (rq : List Nat), -1 ≤ z ∧ z < (n : Int) ∧ i = .int .i64 z ∧ v = .int .u64 (R : Int) ∧ R < d ∧ rq.length + (z + 1).toNat = n ∧ Dig 4294967296 rq ∧ val 4294967296 (seg.drop (z + 1).toNat) = val 4294967296 rq * d + R ∧ Blk .u32 wr G 75 (seg.take (z + 1).toNat ++ (rq ++ T)) ∧ Kp (· = G) w wr) (fun _ i _ => (intOf i + 1).toNat)
  case atStart =>
    refine ⟨(n : Int) - 1, 0, [], by omega, by omega, rfl, rfl, HD0.out, by simp, dig_nil, ?_, ?_, Kp.refl _ _⟩
    · rw [List.drop_of_length_le (by rw [HN.out]; omega)]; simp [val]
    · rw [show ((n : Int) - 1 + 1).toNat = n by omega, List.take_of_length_le (by rw [HN.out]; exact Nat.le_refl _)]
      exact HBK0.out
  case round =>
    obtain ⟨z, R, rq, hz1, hz2, rfl, rfl, hR, hrl, hrd, hv, hblk, hkp⟩ := hrel
    have HR := Lib.hid hR
    have HRL := Lib.hid hrl
    have HRD := Lib.hid hrd
    have HV := Lib.hid hv
    have HBK := Lib.hid hblk
    have HKP := Lib.hid hkp
    clear hR hrl hrd hv hblk hkp
    by_cases hz : 0 ≤ z
    · obtain ⟨j, rfl⟩ : ∃ j : Nat, z = (j : Int) := ⟨z.toNat, by omega⟩
      have HV1 := Lib.hid (show val 4294967296 (seg.drop (j + 1)) = val 4294967296 rq * d + R from HV.out)
      have HRL1 := Lib.hid (show rq.length + (j + 1) = n from HRL.out)
      have hb : Blk .u32 wr G 75 (seg.take (j + 1) ++ (rq ++ T)) := HBK.out
      have HTK := Lib.hid (show seg.take (j + 1) = seg.take j ++ [seg.getD j 0] by
        rw [List.take_succ_eq_append_getElem (by rw [HN.out]; omega), List.getD_eq_getElem?_getD, List.getElem?_eq_getElem (by rw [HN.out]; omega)]; rfl)
      rw [HTK.out, List.append_assoc, List.singleton_append] at hb
      have HTL := Lib.hid (show (seg.take j).length = j by rw [List.length_take, HN.out]; omega)
      have hcell := hb.cell (i := j) (by rw [List.length_append, List.length_cons, HTL.out]; omega)
      rw [getD_at _ _ _ HTL.out] at hcell
      have hfr := hb.frozen j
      have HST := Lib.hid (fun q => hb.set_ j q)
      have HSA := Lib.hid (fun q => set_at (seg.take j) (rq ++ T) (seg.getD j 0) q HTL.out)
      have HVD := Lib.hid (val_drop (B := 4294967296) seg j)
      have d1 := dig_getD (B := 4294967296) (by decide) HDA.out j
      clear hb HV HBK
      generalize seg.getD j 0 = x at hcell HST HSA HVD d1 HTK
      have HSS := Lib.hid (short_step (B := 4294967296) (x := x) HV1.out)
      have hq := short_q (B := 4294967296) HR.out d1 HD0.out
      have hr := Nat.mod_lt (R * 4294967296 + x) HD0.out
      have ho := or_hi R x (by have := HR.out; have := HDL.out; omega) d1
      obtain ⟨p, hp⟩ : ∃ p, R * 4294967296 + x = p := ⟨_, rfl⟩
      have hpl : p < 18446744073709551616 := by have := HR.out; have := HDL.out; omega
      rw [show x + 4294967296 * R = p by omega] at ho
      rw [hp] at HSS hq hr
      obtain ⟨X, hX⟩ : ∃ X : Int, (x : Int) = X := ⟨_, rfl⟩
      obtain ⟨S, hS⟩ : ∃ X : Int, (R : Int) = X := ⟨_, rfl⟩
      obtain ⟨P, hP⟩ : ∃ X : Int, (p : Int) = X := ⟨_, rfl⟩
      obtain ⟨q, hqe⟩ : ∃ q, p / d = q := ⟨_, rfl⟩
      obtain ⟨r, hre⟩ : ∃ r, p % d = r := ⟨_, rfl⟩
      rw [hqe] at HSS hq
      rw [hre] at HSS hr
      have e1 : P / D = (q : Int) := by rw [← hP, ← HD.out, ← hqe]; rfl
      have e2 : P % D = (r : Int) := by rw [← hP, ← HD.out, ← hre]; rfl
      rw [hX, hS, hP] at ho
      rw [hX] at hcell
      rw [hS]
      have hX1 : 0 ≤ X := by omega
      have hX2 : X < 4294967296 := by omega
      have hS1 : 0 ≤ S := by omega
      have hS2 : S < 4294967296 := by have := HR.out; have := HDL.out; omega
      have hP1 : 0 ≤ P := by omega
      have hP2 : P < 18446744073709551616 := by omega
      have HQ := Lib.hid hq
      have HRR := Lib.hid hr
      have hq1 : (q : Int) < 4294967296 := by omega
      have hr1 : (r : Int) < 4294967296 := by have := HDL.out; omega
      clear hX hS hP hqe hre hp hpl hq hr d1
      have hj0 : (0 : Int) ≤ (j : Int) := by omega
      have hj1 : (j : Int) < (n : Int) := by omega
      go_wp2
      go_roundw
      case rel =>
        refine ⟨(j : Int) - 1, r, q :: rq, by omega, by omega, rfl, by rw [e2], HRR.out, ?_, dig_cons.2 ⟨HQ.out, HRD.out⟩, ?_, ?_, HKP.out.setCell (p := ⟨G, j, none⟩) (fun _ => rfl) _⟩
        · rw [show ((j : Int) - 1 + 1).toNat = j by omega, List.length_cons]; have := HRL1.out; omega
        · rw [show ((j : Int) - 1 + 1).toNat = j by omega, HVD.out, HSS.out, val, Nat.add_comm q]
        · rw [show ((j : Int) - 1 + 1).toNat = j by omega]
          have := HST.out q
          rw [HSA.out, List.append_assoc, List.singleton_append, ← List.cons_append] at this
          exact this
      case measure => simp [intOf]
    · obtain rfl : z = -1 := by omega
      have HRD2 := Lib.hid (show (R : Int) < 4294967296 by have := HR.out; have := HDL.out; omega)
      have hR2 := HRD2.out
      go_wp2
      go_ret
      have hv := HV.out
      rw [show ((-1 : Int) + 1).toNat = 0 by omega, List.drop_zero] at hv
      have hm : val 4294967296 seg % d = R := by rw [hv, Nat.add_comm, Nat.add_mul_mod_self_right, Nat.mod_eq_of_lt HR.out]
      have hq : val 4294967296 rq = val 4294967296 seg / d := by rw [hv, Nat.add_comm, Nat.add_mul_div_right _ _ HD0.out, Nat.div_eq_of_lt HR.out, Nat.zero_add]
      have hb := HBK.out
      rw [show ((-1 : Int) + 1).toNat = 0 by omega, List.take_zero, List.nil_append] at hb
      have hl := HRL.out
      rw [show ((-1 : Int) + 1).toNat = 0 by omega, Nat.add_zero] at hl
      refine ⟨ret_int ?_, ⟨rq, hl, HRD.out, hq, hb⟩, HKP.out⟩
      have h2 : ((val 4294967296 seg % d : Nat) : Int) = R := by rw [hm]
      exact h2.symm
end Go.Proofs.Ytpcliampffeknaa
