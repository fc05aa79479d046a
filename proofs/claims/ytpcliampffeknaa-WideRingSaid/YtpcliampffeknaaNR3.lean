/- Contracts of the reference's differences. -/
import Derived.Test.YtpcliampffeknaaNBox
namespace Go.Proofs.Ytpcliampffeknaa
open Go.RowKit

set_option maxRecDepth 100000 in
set_option maxHeartbeats 1600000 in
theorem minus_any (la lb : List Nat) (A A' : Option Addr) (n n' c c' : Nat) (w : World) (hda : Dig 10000 la) (hdb : Dig 10000 lb) (ha : LI .i64 w (.slice A n c) la) (hb : LI .i64 w (.slice A' n' c') lb) (hn : n ≤ 900000) (hn' : n' ≤ 900000) (hle : val 10000 lb ≤ val 10000 la) :
    Calls Try.prog 59 #[.slice A n c, .slice A' n' c'] w (RetD .i64 10000 (fun o => val 10000 o = val 10000 la - val 10000 lb ∧ o.length = n) w) := by
  obtain ⟨i0, hi0, hz0, hz1, hz2⟩ := info_parts int_info
  have HA := Lib.hid ha
  have HB := Lib.hid hb
  have HDA := Lib.hid hda
  have HDB := Lib.hid hdb
  have HN := Lib.hid ha.len.1
  have HN' := Lib.hid hb.len.1
  have HLE := Lib.hid hle
  clear ha hb hda hdb hle
  go_enter Try.func59, Try.ntmps59
  go_wp2
  go_loopw [5, 6, 7] (fun v y i wr => ∃ (k q : Nat) (o : List Nat), k ≤ n ∧ q ≤ 1 ∧ i = .int .i64 k ∧ y = .int .i64 q ∧ o.length = k ∧ Dig 10000 o ∧ val 10000 o + val 10000 (lb.take k) = val 10000 (la.take k) + 10000 ^ k * q ∧ wr.ownsRow w.heap.size 3 1 v k (vs .i64 (nI o)) ∧ Below w.heap.size w wr) (fun _ _ i _ => n - (intOf i).toNat)
  case atStart => exact ⟨0, 0, [], by omega, by omega, rfl, rfl, rfl, dig_nil, by simp [val], World.ownsRow_nil _ _ _ _, Below.refl _ _⟩
  case round =>
    obtain ⟨k, q, o, hk, hq, rfl, rfl, ho, hdo, hv, hown, hbel⟩ := hrel
    have HO := Lib.hid ho
    have HDO := Lib.hid hdo
    have HV := Lib.hid hv
    have HW := Lib.hid hown
    have HBB := Lib.hid hbel
    clear ho hdo hv hown hbel
    obtain ⟨z, hz⟩ : ∃ z : Int, (q : Int) = z := ⟨_, rfl⟩
    rw [hz]
    have HZ := Lib.hid hz
    have hzl : 0 ≤ z := by omega
    have hzr : z ≤ 1 := by omega
    clear hz
    by_cases hgo : k < n
    · have hxl := dig_getD (B := 10000) (by decide) HDA.out k
      have hyl := dig_getD (B := 10000) (by decide) HDB.out k
      have HST := Lib.hid (fun (d c : Nat) (hd : d + lb.getD k 0 + q = la.getD k 0 + 10000 * c) => (minus_step (c := c) HO.out HV.out hd : val 10000 (o ++ [d]) + (val 10000 (lb.take k) + 10000 ^ k * lb.getD k 0) = (val 10000 (la.take k) + 10000 ^ k * la.getD k 0) + 10000 ^ (k + 1) * c))
      rw [← val_take_succ, ← val_take_succ] at HST
      have HA1 := Lib.hid (at_any la A n c k wr (HA.out.new HBB.out) (by omega) (by omega))
      have HB1 := Lib.hid (at_any lb A' n' c' k wr (HB.out.new HBB.out) (by omega) (by omega))
      generalize la.getD k 0 = x at hxl HST HA1
      generalize lb.getD k 0 = y at hyl HST HB1
      obtain ⟨X, hX⟩ : ∃ X : Int, (x : Int) = X := ⟨_, rfl⟩
      obtain ⟨Y, hY⟩ : ∃ Y : Int, (y : Int) = Y := ⟨_, rfl⟩
      rw [hX] at HA1
      rw [hY] at HB1
      have hX1 : 0 ≤ X := by omega
      have hX2 : X < 10000 := by omega
      have hY1 : 0 ≤ Y := by omega
      have hY2 : Y < 10000 := by omega
      have HX := Lib.hid hX
      have HY := Lib.hid hY
      clear hX hY hxl hyl
      have HO2 := Lib.hid (show k + 1 ≤ maxLen by unfold maxLen; omega)
      have HO3 := Lib.hid (show (k + 1) * 8 ≤ 140737488355328 by omega)
      have HO4 := Lib.hid HBB.out.size
      have HW1 := fun o => Lib.hid (HW.out.alloc o)
      have key : ∀ (w1 : World) (v' : Value) (D C : Int), 0 ≤ D → D < 10000 → 0 ≤ C → C ≤ 1 → D + Y + z = X + 10000 * C → w1.ownsRow w.heap.size 3 1 v' (k + 1) (vs .i64 (nI o) ++ [.int .i64 D]) → Below w.heap.size w w1 →
          ∃ (k' q' : Nat) (o' : List Nat), k' ≤ n ∧ q' ≤ 1 ∧ Value.int .i64 ((k : Int) + 1) = .int .i64 k' ∧ Value.int .i64 C = .int .i64 q' ∧ o'.length = k' ∧ Dig 10000 o' ∧ val 10000 o' + val 10000 (lb.take k') = val 10000 (la.take k') + 10000 ^ k' * q' ∧ w1.ownsRow w.heap.size 3 1 v' k' (vs .i64 (nI o')) ∧ Below w.heap.size w w1 := by
        intro w1 v' D C hD1 hD2 hC1 hC2 hDC h1 h2
        have e1 := HX.out
        have e2 := HY.out
        have e3 := HZ.out
        obtain ⟨d, rfl⟩ : ∃ d : Nat, D = d := ⟨D.toNat, by omega⟩
        obtain ⟨b, rfl⟩ : ∃ b : Nat, C = b := ⟨C.toNat, by omega⟩
        exact ⟨k + 1, b, o ++ [d], by omega, by omega, by go_num, rfl, by rw [List.length_append, HO.out]; rfl, dig_snoc HDO.out (by omega), HST.out d b (by omega), own_snocN HO.out h1 rfl, h2⟩
      have KEY := Lib.hid key
      clear key
      by_cases hneg : X < Y + z
      all_goals
        go_wp2_with fail
        refine HA1.out.mono ?_
        rintro e w' ⟨rfl, rfl⟩
        go_wp2_with fail
        refine HB1.out.mono ?_
        rintro e w' ⟨rfl, rfl⟩
        go_wp2_with (at_builtin; refine wpList_append_own _ rfl _ _ 22 rfl w.heap.size 3 i0 (.int .i64 0) 1 8 Try.underlying22 hi0 hz0 hz1 hz2 rfl (by decide) _ _ _ rfl (HW1 _).out ⟨wr.heap.size, 0, none⟩ 1 1 [_] rfl rfl (cell_one_new _ _ _) (one_cells _ _) HO2.out HO3.out (alloc_ge HO4.out) ?_; intro v' w1 hown' hgrow _)
      · have HE := Lib.hid (KEY.out w1 v' (X - Y - z + 10000) 1 (by omega) (by omega) (by omega) (by omega) (by omega) hown' ((HBB.out.alloc HO4.out _).grown hgrow (alloc_ge HO4.out) (own_block_ge (HW1 (.cells #[] 0)).out)))
        clear hown' hgrow
        go_roundw
        case rel => exact HE.out
        case measure => simp [intOf]; omega
      · have HE := Lib.hid (KEY.out w1 v' (X - Y - z) 0 (by omega) (by omega) (by omega) (by omega) (by omega) hown' ((HBB.out.alloc HO4.out _).grown hgrow (alloc_ge HO4.out) (own_block_ge (HW1 (.cells #[] 0)).out)))
        clear hown' hgrow
        go_roundw
        case rel => exact HE.out
        case measure => simp [intOf]; omega
    · obtain rfl : k = n := by omega
      obtain ⟨a5, c5, rfl⟩ := own_form HW.out
      go_wp2
      go_ret
      refine ⟨a5, k, c5, o, rfl, LO.own HW.out, HO.out, HDO.out, ⟨?_, HO.out⟩, HBB.out⟩
      have e1 := HV.out
      have e2 := val_take_add (B := 10000) lb k
      have e3 := val_lt (B := 10000) (by decide) HDA.out
      have e4 := val_lt (B := 10000) (by decide) HDO.out
      have e5 := HLE.out
      rw [HN.out] at e3
      rw [HO.out] at e4
      rw [val_take_all (l := la) (by rw [HN.out]; exact Nat.le_refl _)] at e1
      have e6 : val 10000 (lb.drop k) = 0 := by
        rcases Nat.eq_zero_or_pos (val 10000 (lb.drop k)) with e | e
        · exact e
        · have := Nat.mul_le_mul_left (10000 ^ k) e
          omega
      rw [e6, Nat.mul_zero] at e2
      rcases Nat.eq_zero_or_pos q with e | e
      · subst e; omega
      · have := Nat.mul_le_mul_left (10000 ^ k) e
        omega
end Go.Proofs.Ytpcliampffeknaa
