/- Contracts of the reference's integers. Conditions: as each statement has them. -/
import Derived.WalkKit
import Derived.Outline
import Derived.WalkSpells
import Derived.WalkLawsBesides
import Derived.LoopTactic
import Derived.Deep.QuietTactic
import Derived.BigQuiet
import Derived.Test.YtbhnaffbgggabaaGreatProg
import Derived.Test.YtbhnaffbgggabaaGreatB1
import Derived.Lib.Hide
import Derived.Deep.RegionHeld3
import Derived.Deep.DrawnRows
import Derived.IntWalk
import Derived.RegionTactic
import Derived.ChangeAlike
namespace Go.Proofs.YtbhnaffbgggabaaGreat
open Go.RowKit

theorem int_info : (Tryz.prog.info? 3).map (fun i => (i.zero, i.size, i.bytes)) = some (some (.int .i64 0), 1, 8) := by kernel_rfl
theorem int_size (W : World) : (sizeOf 3).run Tryz.prog W = .ok 1 W := by kernel_rfl
theorem ret_int {k : IntKind} {a b : Int} (h : a = b) : Ending.returned (.int k a) = .returned (.int k b) := by rw [h]

theorem at_any (l : List Nat) (A : Option Addr) (n c j : Nat) (w : World) (hl : LI .i64 w (.slice A n c) l) (_hn : n ≤ 1000000) (_hj : j ≤ 1000000) :
    Calls Tryz.prog 214 #[.slice A n c, .int .i64 (j : Int)] w fun e w' => e = .returned (.int .i64 ((l.getD j 0 : Nat) : Int)) ∧ w = w' := by
  have HL := hJ hl
  by_cases h : j < n
  · obtain ⟨b, off, rfl, hb, hc⟩ := hl.at_ h
    clear hl
    generalize l.getD j 0 = x at hc
    go_enter Tryz.func214, Tryz.ntmps214
    go_wp2
    go_ret
    exact ⟨rfl, rfl⟩
  · have h0 : l.getD j 0 = 0 := getD_out (by have := hl.len; omega)
    rw [h0]
    clear hl h0
    go_enter Tryz.func214, Tryz.ntmps214
    go_wp2
    go_ret
    exact ⟨rfl, rfl⟩

/-- -1, 0 or 1. -/
def cmpN (a b : Nat) : Int := if a < b then -1 else if b < a then 1 else 0
theorem cmpN_lt {a b : Nat} (h : a < b) : cmpN a b = -1 := by rw [cmpN, if_pos h]
theorem cmpN_gt {a b : Nat} (h : b < a) : cmpN a b = 1 := by rw [cmpN, if_neg (by omega), if_pos h]
theorem cmpN_eq (a : Nat) : cmpN a a = 0 := by rw [cmpN, if_neg (by omega), if_neg (by omega)]
theorem drawn {B : Nat} {a w : World} (h : Below B a w) (n : Nat) : Below B a (w.drewN n) := ⟨h.os, h.tape, h.output, h.size, h.block⟩
set_option maxHeartbeats 800000 in
theorem compared_any (x y : Nat) (A A' : Option Addr) (n n' c c' : Nat) (w : World) (hx : LI .i64 w (.slice A n c) (digs 10000 x)) (hy : LI .i64 w (.slice A' n' c') (digs 10000 y)) (hn : n ≤ 1000000) (hn' : n' ≤ 1000000) :
    Calls Tryz.prog 162 #[.slice A n c, .slice A' n' c'] w fun e w' => e = .returned (.int .i64 (cmpN x y)) ∧ Below w.heap.size w w' := by
  have HX := hJ hx
  have HY := hJ hy
  have h1 := hx.len.1
  have h2 := hy.len.1
  by_cases hlt : n < n'
  · have HE := hJ (cmpN_lt (digs_len_lt (B := 10000) (a := x) (b := y) (by decide) (by omega)))
    clear hx hy h1 h2
    rw [HE.out]
    go_enter Tryz.func162, Tryz.ntmps162
    go_wp2
    go_ret
    exact ⟨rfl, Below.refl _ _⟩
  · by_cases hgt : n' < n
    · have HE := hJ (cmpN_gt (digs_len_lt (B := 10000) (a := y) (b := x) (by decide) (by omega)))
      clear hx hy h1 h2
      rw [HE.out]
      go_enter Tryz.func162, Tryz.ntmps162
      go_wp2
      go_ret
      exact ⟨rfl, Below.refl _ _⟩
    · obtain rfl : n' = n := by omega
      have H1 := hJ h1
      have H2 := hJ h2
      clear hx hy h1 h2
      go_enter Tryz.func162, Tryz.ntmps162
      go_wp2
      go_loopw [5] (fun i wr => ∃ z : Int, -1 ≤ z ∧ z < (n' : Int) ∧ i = .int .i64 z ∧ (digs 10000 x).drop (z + 1).toNat = (digs 10000 y).drop (z + 1).toNat ∧ Below w.heap.size w wr) (fun i _ => (intOf i + 1).toNat)
      case atStart => exact ⟨(n' : Int) - 1, by omega, by omega, rfl, by rw [List.drop_of_length_le (by rw [H1.out]; omega), List.drop_of_length_le (by rw [H2.out]; omega)], Below.refl _ _⟩
      case round =>
        obtain ⟨z, hz1, hz2, rfl, hd, hb⟩ := hrel
        have HD := hJ hd
        have HB := hJ hb
        clear hd hb
        by_cases hz : 0 ≤ z
        · obtain ⟨j, rfl⟩ : ∃ j : Nat, z = (j : Int) := ⟨z.toNat, by omega⟩
          obtain ⟨b, off, rfl, hb1, hc1⟩ := (HX.out.new HB.out).at_ (j := j) (by omega)
          obtain ⟨b', off', rfl, hb2, hc2⟩ := (HY.out.new HB.out).at_ (j := j) (by omega)
          have HD2 := hJ (show (digs 10000 x).drop (j + 1) = (digs 10000 y).drop (j + 1) from HD.out)
          obtain ⟨X, hX⟩ : ∃ X : Int, (((digs 10000 x).getD j 0 : Nat) : Int) = X := ⟨_, rfl⟩
          obtain ⟨Y, hY⟩ : ∃ Y : Int, (((digs 10000 y).getD j 0 : Nat) : Int) = Y := ⟨_, rfl⟩
          rw [hX] at hc1
          rw [hY] at hc2
          have HVX := hJ hX
          have HVY := hJ hY
          clear hX hY HD
          have hj1 : (0 : Int) ≤ (j : Int) := by omega
          have hj2 : (j : Int) < (n' : Int) := by omega
          by_cases hXY : X < Y
          · have HC := hJ (cmpN_lt (by
              have := val_cmp (B := 10000) (a := digs 10000 x) (b := digs 10000 y) (by decide) (dig_digs (by decide) x) HD2.out (by have := HVX.out; have := HVY.out; omega)
              rwa [val_digs (by decide), val_digs (by decide)] at this))
            go_wp2
            go_quiet (fail)
            go_wp2
            go_ret
            exact ⟨ret_int HC.out.symm, by exact ⟨HB.out.os, HB.out.tape, HB.out.output, HB.out.size, HB.out.block⟩⟩
          · by_cases hYX : Y < X
            · have HC := hJ (cmpN_gt (by
                have := val_cmp (B := 10000) (a := digs 10000 y) (b := digs 10000 x) (by decide) (dig_digs (by decide) y) HD2.out.symm (by have := HVX.out; have := HVY.out; omega)
                rwa [val_digs (by decide), val_digs (by decide)] at this))
              go_wp2
              go_quiet (fail)
              go_wp2
              go_quiet (fail)
              go_wp2
              go_ret
              exact ⟨ret_int HC.out.symm, by exact ⟨HB.out.os, HB.out.tape, HB.out.output, HB.out.size, HB.out.block⟩⟩
            · have HE := hJ (show (digs 10000 x).drop j = (digs 10000 y).drop j by
                have e1 := H1.out
                have e2 := H2.out
                have ev : (digs 10000 x).getD j 0 = (digs 10000 y).getD j 0 := by have := HVX.out; have := HVY.out; omega
                rw [List.drop_eq_getElem_cons (l := digs 10000 x) (i := j) (by omega), List.drop_eq_getElem_cons (l := digs 10000 y) (i := j) (by omega), HD2.out]
                rw [List.getD_eq_getElem?_getD, List.getElem?_eq_getElem (l := digs 10000 x) (i := j) (by omega), List.getD_eq_getElem?_getD, List.getElem?_eq_getElem (l := digs 10000 y) (i := j) (by omega)] at ev
                exact congrArg (· :: _) ev)
              go_wp2
              go_quiet (fail)
              go_wp2
              go_quiet (fail)
              go_wp2
              go_roundw
              case rel => exact ⟨(j : Int) - 1, by omega, by omega, rfl, by rw [show ((j : Int) - 1 + 1).toNat = j by omega]; exact HE.out, by exact ⟨HB.out.os, HB.out.tape, HB.out.output, HB.out.size, HB.out.block⟩⟩
              case measure => simp [intOf]
        · obtain rfl : z = -1 := by omega
          go_wp2
          go_ret
          refine ⟨?_, HB.out⟩
          have : x = y := by
            have := HD.out
            rw [show ((-1 : Int) + 1).toNat = 0 by omega, List.drop_zero, List.drop_zero] at this
            rw [← val_digs (B := 10000) (by decide) x, this, val_digs (by decide)]
          rw [this, cmpN_eq]
          rfl
end Go.Proofs.YtbhnaffbgggabaaGreat

namespace Go.Proofs.YtbhnaffbgggabaaGreat
open Go.RowKit

def lenOf : Value → Nat
  | .slice _ n _ => n
  | _ => 0
/-- A reference's integer: a sign, and the digits of the absolute value, in a block of the kind ok. -/
def RNo (ok : Nat → Prop) (w : World) (neg : Bool) (A : Option Addr) (n c : Nat) (x : Int) : Prop := (neg = decide (x < 0)) ∧ (digs 10000 x.natAbs).length = n ∧ LO .i64 ok w (.slice A n c) (digs 10000 x.natAbs)
abbrev RN (w : World) (neg : Bool) (A : Option Addr) (n c : Nat) (x : Int) : Prop := RNo (fun _ => True) w neg A n c x
theorem RNo.new {ok : Nat → Prop} {w w' : World} {neg : Bool} {A : Option Addr} {n c : Nat} {x : Int} (h : RNo ok w neg A n c x) (hb : Below w.heap.size w w') : RNo ok w' neg A n c x := ⟨h.1, h.2.1, h.2.2.new hb⟩
theorem RNo.weak {ok : Nat → Prop} {w : World} {neg : Bool} {A : Option Addr} {n c : Nat} {x : Int} (h : RNo ok w neg A n c x) : RN w neg A n c x := ⟨h.1, h.2.1, h.2.2.weak⟩
/-- What a function returns that returns such an integer. -/
def RetNo (ok : Nat → Prop) (x : Int) (w : World) (e : Ending) (w' : World) : Prop := ∃ neg A n c, e = .returned (.agg #[.bool neg, .slice A n c]) ∧ RNo ok w' neg A n c x ∧ Below w.heap.size w w'
abbrev RetN (x : Int) (w : World) (e : Ending) (w' : World) : Prop := RetNo (fun _ => True) x w e w'
def sgn (neg : Bool) (v : Nat) : Int := if neg = true then -(v : Int) else (v : Int)
theorem sgn_abs (neg : Bool) (v : Nat) : (sgn neg v).natAbs = v := by unfold sgn; split <;> omega
theorem sgn_neg (neg : Bool) (v : Nat) : (neg && decide (0 < v)) = decide (sgn neg v < 0) := by
  unfold sgn
  cases neg
  · simp
  · by_cases h : 0 < v
    · simp [h]
    · simp [h]
theorem sgn_of (x : Int) : sgn (decide (x < 0)) x.natAbs = x := by
  unfold sgn
  by_cases h : x < 0
  · simp [h]; omega
  · simp [h]; omega

theorem normal_end {ok : Nat → Prop} {w w' : World} {neg b : Bool} {l : List Nat} {a : Option Addr} {k n c : Nat} (hn : l.take k = digs 10000 (val 10000 l)) (hl : LO .i64 ok w (.slice a k c) (l.take k)) (hb : Below w.heap.size w w')
    (hk : k ≤ n) (hn' : l.length = n) (hbb : b = (neg && decide (0 < k))) : RetNo ok (sgn neg (val 10000 l)) w (.returned (.agg #[.bool b, .slice a k c])) w' := by
  refine ⟨b, a, k, c, rfl, ⟨?_, ?_, ?_⟩, hb⟩
  · rw [← sgn_neg, hbb]
    have h0 := digs_nil (B := 10000) (n := val 10000 l) (by decide)
    rw [← hn] at h0
    have : (0 < k) ↔ (0 < val 10000 l) := by
      constructor
      · intro h
        rcases Nat.eq_zero_or_pos (val 10000 l) with e | e
        · have := congrArg List.length (h0.2 e)
          rw [List.length_take, List.length_nil] at this
          omega
        · exact e
      · intro h
        rcases Nat.eq_zero_or_pos k with rfl | e
        · have := h0.1 (by simp); omega
        · exact e
    simp only [this]
  · rw [sgn_abs, ← hn, List.length_take]; omega
  · rw [sgn_abs, ← hn]; exact hl.new hb
set_option maxHeartbeats 800000 in
theorem normal_ok (ok : Nat → Prop) (neg : Bool) (l : List Nat) (A : Option Addr) (n c : Nat) (w : World) (hd : Dig 10000 l) (hl : LO .i64 ok w (.slice A n c) l) (hn : n ≤ 1000000) :
    Calls Tryz.prog 97 #[.bool neg, .slice A n c] w (RetNo ok (sgn neg (val 10000 l)) w) := by
  have HL := hJ hl
  have HD := hJ hd
  have HN := hJ hl.len.1
  have hb0 := fun o => (Below.refl w.heap.size w).alloc (Nat.le_refl _) o
  clear hl hd
  go_enter Tryz.func97, Tryz.ntmps97
  go_wp2_with fail
  have HB := hJ hb0
  clear hb0
  cases neg
  all_goals
    go_loop [1] (fun v => ∃ (a : Option Addr) (k : Nat), k ≤ n ∧ v = .slice a k c ∧ LO .i64 ok w v (l.take k) ∧ ∃ j, l = l.take k ++ List.replicate j 0) (fun v => lenOf v)
    case atStart => exact ⟨A, n, Nat.le_refl _, rfl, by rw [List.take_of_length_le (by rw [HN.out]; exact Nat.le_refl _)]; exact HL.out, 0, by rw [List.take_of_length_le (by rw [HN.out]; exact Nat.le_refl _)]; simp⟩
    case round =>
      obtain ⟨a, k, hk, rfl, hli, hz⟩ := hrel
      have HLI := hJ hli
      have HZ := hJ hz
      have HV := hJ (show val 10000 l = val 10000 (l.take k) by
        obtain ⟨j, hj⟩ := hz
        conv => lhs; rw [hj]
        rw [val_append, val_zeros]; omega)
      have HDT := hJ (dig_take HD.out k)
      clear hli hz
      rcases Nat.eq_zero_or_pos k with rfl | hp
      · have HNM := hJ (digs_of_zeros (B := 10000) (m := l.take 0) (by decide) HD.out HZ.out (norm_take (Nat.zero_le _) (.inl rfl)))
        go_wp2
        exact bodyPost_ret (v := .agg #[.bool false, .slice a 0 c]) (by simp [results, Tryz.results97, go_sem]) rfl (normal_end HNM.out HLI.out (HB.out _) (Nat.zero_le _) HN.out rfl)
      · obtain ⟨m, rfl⟩ : ∃ m, k = m + 1 := ⟨k - 1, by omega⟩
        obtain ⟨b, off, rfl, hb, hc⟩ := (HLI.out.new (HB.out (.cells #[.bool false, .slice none 0 0] 24))).at_ (j := m) (by omega)
        rw [getD_take' (Nat.lt_succ_self m)] at hc
        obtain ⟨x, hx⟩ : ∃ x, l.getD m 0 = x := ⟨_, rfl⟩
        rw [hx] at hc
        have HX := hJ hx
        clear hx
        obtain ⟨z, hz⟩ : ∃ z : Int, (x : Int) = z := ⟨_, rfl⟩
        rw [hz] at hc
        have HZX := hJ hz
        clear hz
        obtain ⟨a', hsl, hli'⟩ := HLI.out.to_ (P := Tryz.prog) (ty := 22) Tryz.underlying22 int_size m (by omega) _ rfl
        by_cases h0 : z = 0
        · subst h0
          have HZ' := hJ (take_zeros (l := l) (k := m) (by have := HN.out; omega) (by have := HX.out; have := HZX.out; omega) HZ.out)
          have HLI' := hJ hli'
          rw [List.take_take, Nat.min_eq_left (Nat.le_succ m)] at HLI'
          clear hli'
          go_wp2
          go_roundw
          case rel => exact ⟨a', m, by omega, rfl, HLI'.out, HZ'.out⟩
          case measure => simp [lenOf]
        · have hz0 : (z == 0) = false := beq_eq_false_iff_ne.2 h0
          have HNM := hJ (digs_of_zeros (B := 10000) (m := l.take (m + 1)) (by decide) HD.out HZ.out (norm_take (by have := HN.out; omega) (.inr (by rw [Nat.add_sub_cancel]; have := HX.out; have := HZX.out; omega))))
          clear hli'
          go_wp2
          exact bodyPost_ret (v := .agg #[.bool _, .slice (some ⟨b, off, none⟩) (m + 1) c]) (by simp [results, Tryz.results97, go_sem]; rfl) rfl (normal_end HNM.out HLI.out (HB.out _) hk HN.out (by simp))

theorem normal_any (neg : Bool) (l : List Nat) (A : Option Addr) (n c : Nat) (w : World) (hd : Dig 10000 l) (hl : LI .i64 w (.slice A n c) l) (hn : n ≤ 1000000) :
    Calls Tryz.prog 97 #[.bool neg, .slice A n c] w (RetN (sgn neg (val 10000 l)) w) := normal_ok _ neg l A n c w hd hl hn

/-- What a function returns that returns digits in new memory. -/
def RetD (k : IntKind) (B : Nat) (P : List Nat → Prop) (w : World) (e : Ending) (w' : World) : Prop := ∃ A n c o, e = .returned (.slice A n c) ∧ LO k (w.heap.size ≤ ·) w' (.slice A n c) o ∧ o.length = n ∧ Dig B o ∧ P o ∧ Below w.heap.size w w'
set_option maxHeartbeats 1600000 in
theorem plus_any (la lb : List Nat) (A A' : Option Addr) (n n' c c' : Nat) (w : World) (hda : Dig 10000 la) (hdb : Dig 10000 lb) (ha : LI .i64 w (.slice A n c) la) (hb : LI .i64 w (.slice A' n' c') lb) (hn : n ≤ 900000) (hn' : n' ≤ 900000) :
    Calls Tryz.prog 161 #[.slice A n c, .slice A' n' c'] w (RetD .i64 10000 (fun o => val 10000 o = val 10000 la + val 10000 lb ∧ o.length ≤ max n n' + 1) w) := by
  obtain ⟨i0, hi0, hz0, hz1, hz2⟩ := info_parts int_info
  have HA := hJ ha
  have HB := hJ hb
  have HDA := hJ hda
  have HDB := hJ hdb
  have HN := hJ ha.len.1
  have HN' := hJ hb.len.1
  obtain ⟨M, hM⟩ : ∃ M, max n n' = M := ⟨_, rfl⟩
  have hM1 : n ≤ M := by omega
  have hM2 : n' ≤ M := by omega
  have hM3 : M ≤ 900000 := by omega
  rw [hM]
  clear ha hb hda hdb hM
  go_enter Tryz.func161, Tryz.ntmps161
  go_wp2
  go_loopw [5, 6, 7] (fun v y i wr => ∃ (k q : Nat) (o : List Nat), k ≤ M + 1 ∧ q ≤ 1 ∧ (M < k → q = 0) ∧ i = .int .i64 k ∧ y = .int .i64 q ∧ o.length = k ∧ Dig 10000 o ∧ val 10000 o + 10000 ^ k * q = val 10000 (la.take k) + val 10000 (lb.take k) ∧ wr.ownsRow w.heap.size 3 1 v k (vs .i64 (nI o)) ∧ Below w.heap.size w wr) (fun _ _ i _ => M + 1 - (intOf i).toNat)
  case atStart => exact ⟨0, 0, [], by omega, by omega, fun _ => rfl, rfl, rfl, rfl, dig_nil, by simp [val], World.ownsRow_nil _ _ _ _, Below.refl _ _⟩
  case round =>
    obtain ⟨k, q, o, hk, hq, hqk, rfl, rfl, ho, hdo, hv, hown, hbel⟩ := hrel
    have HO := hJ ho
    have HDO := hJ hdo
    have HV := hJ hv
    have HW := hJ hown
    have HBB := hJ hbel
    have HQK := hJ hqk
    clear ho hdo hv hown hbel hqk
    obtain ⟨z, hz⟩ : ∃ z : Int, (q : Int) = z := ⟨_, rfl⟩
    rw [hz]
    have HZ := hJ hz
    have hzl : 0 ≤ z := by omega
    have hzr : z ≤ 1 := by omega
    clear hz
    by_cases hgo : k < n ∨ k < n' ∨ 0 < z
    · have hxl := dig_getD (B := 10000) (by decide) HDA.out k
      have hyl := dig_getD (B := 10000) (by decide) HDB.out k
      have HST := hJ (plus_step (x := la.getD k 0) (y := lb.getD k 0) HO.out HV.out)
      rw [← val_take_succ, ← val_take_succ] at HST
      have HA1 := hJ (at_any la A n c k wr (HA.out.new HBB.out) (by omega) (by omega))
      have HB1 := hJ (at_any lb A' n' c' k wr (HB.out.new HBB.out) (by omega) (by omega))
      have HG := hJ (show k = M → la.getD k 0 = 0 ∧ lb.getD k 0 = 0 from fun e => ⟨getD_out (by have := HN.out; omega), getD_out (by have := HN'.out; omega)⟩)
      have HKM := hJ (show k ≤ M by
        rcases Nat.lt_or_ge M k with h | h
        · have := HQK.out h; have := HZ.out; omega
        · exact h)
      generalize la.getD k 0 = x at hxl HST HA1 HG
      generalize lb.getD k 0 = y at hyl HST HB1 HG
      obtain ⟨X, hX⟩ : ∃ X : Int, (x : Int) = X := ⟨_, rfl⟩
      obtain ⟨Y, hY⟩ : ∃ Y : Int, (y : Int) = Y := ⟨_, rfl⟩
      rw [hX] at HA1
      rw [hY] at HB1
      have hX1 : 0 ≤ X := by omega
      have hX2 : X < 10000 := by omega
      have hY1 : 0 ≤ Y := by omega
      have hY2 : Y < 10000 := by omega
      have HX := hJ hX
      have HY := hJ hY
      clear hX hY hxl hyl
      have HO2 := hJ (show k + 1 ≤ maxLen by unfold maxLen; omega)
      have HO3 := hJ (show (k + 1) * 8 ≤ 140737488355328 by omega)
      have HO4 := hJ HBB.out.size
      have HW1 := fun o => hJ (HW.out.alloc o)
      have key : ∀ (w1 : World) (v' : Value), w1.ownsRow w.heap.size 3 1 v' (k + 1) (vs .i64 (nI o) ++ [.int .i64 ((X + Y + z) % 10000)]) → Below w.heap.size w w1 →
          ∃ (k' q' : Nat) (o' : List Nat), k' ≤ M + 1 ∧ q' ≤ 1 ∧ (M < k' → q' = 0) ∧ Value.int .i64 ((k : Int) + 1) = .int .i64 k' ∧ Value.int .i64 ((X + Y + z) / 10000) = .int .i64 q' ∧ o'.length = k' ∧ Dig 10000 o' ∧ val 10000 o' + 10000 ^ k' * q' = val 10000 (la.take k') + val 10000 (lb.take k') ∧ w1.ownsRow w.heap.size 3 1 v' k' (vs .i64 (nI o')) ∧ Below w.heap.size w w1 := by
        intro w1 v' h1 h2
        have e1 := HX.out
        have e2 := HY.out
        have e3 := HZ.out
        refine ⟨k + 1, (x + y + q) / 10000, o ++ [(x + y + q) % 10000], by have := HKM.out; omega, by omega, fun h => ?_, by go_num, congrArg _ (by omega), by rw [List.length_append, HO.out]; rfl, dig_snoc HDO.out (by omega), HST.out, own_snocN HO.out h1 (by omega), h2⟩
        have := HKM.out
        obtain ⟨g1, g2⟩ := HG.out (by omega)
        omega
      have KEY := hJ key
      clear key
      have hcase : k < n ∨ (¬ k < n ∧ k < n') ∨ (¬ k < n ∧ ¬ k < n' ∧ 0 < z) := by omega
      clear hgo
      rcases hcase with h | ⟨h, h'⟩ | ⟨h, h', h''⟩
      all_goals
        go_wp2_with fail
        refine HA1.out.mono ?_
        rintro e w' ⟨rfl, rfl⟩
        go_wp2_with fail
        refine HB1.out.mono ?_
        rintro e w' ⟨rfl, rfl⟩
        go_wp2_with (at_builtin; refine wpList_append_own _ rfl _ _ 22 rfl w.heap.size 3 i0 (.int .i64 0) 1 8 Tryz.underlying22 hi0 hz0 hz1 hz2 rfl (by decide) _ _ _ rfl (HW1 _).out ⟨wr.heap.size, 0, none⟩ 1 1 [_] rfl rfl (cell_one_new _ _ _) (one_cells _ _) HO2.out HO3.out (alloc_ge HO4.out) ?_; intro v' w1 hown' hgrow _)
        have HE := hJ (KEY.out w1 v' hown' ((HBB.out.alloc HO4.out _).grown hgrow (alloc_ge HO4.out) (own_block_ge (HW1 (.cells #[] 0)).out)))
        clear hown' hgrow
        go_roundw
        case rel => exact HE.out
        case measure => have := HKM.out; simp [intOf]; omega
    · have hg1 : ¬ k < n := fun h => hgo (.inl h)
      have hg2 : ¬ k < n' := fun h => hgo (.inr (.inl h))
      have hg3 : ¬ 0 < z := fun h => hgo (.inr (.inr h))
      clear hgo
      obtain ⟨a5, c5, rfl⟩ := own_form HW.out
      go_wp2
      go_ret
      have e0 : q = 0 := by have := HZ.out; omega
      have e1 := HV.out
      rw [e0, val_take_all (by have := HN.out; omega), val_take_all (by have := HN'.out; omega)] at e1
      exact ⟨a5, k, c5, o, rfl, LO.own HW.out, HO.out, HDO.out, ⟨by omega, by have := HO.out; omega⟩, HBB.out⟩
end Go.Proofs.YtbhnaffbgggabaaGreat

namespace Go.Proofs.YtbhnaffbgggabaaGreat
open Go.RowKit

def isI : Value → Bool
  | .int _ _ => true
  | _ => false
/-- Block b is just the two cells v0, v1, none frozen. -/
def P2 (t : TypeId) (w : World) (b : Nat) (v0 v1 : Value) : Prop := w.heap[b]? = some (.cells #[v0, v1] t (0, 0))
section
variable {t : TypeId} {w w' : World} {b : Nat} {v0 v1 : Value}
theorem P2.lt (h : P2 t w b v0 v1) : b < w.heap.size := (Array.getElem?_eq_some_iff.1 h).1
theorem P2.cells (h : P2 t w b v0 v1) : w.cell? ⟨b, 0, none⟩ = some v0 ∧ w.cell? ⟨b, 1, none⟩ = some v1 := by
  unfold P2 at h
  refine ⟨?_, ?_⟩ <;> simp [World.cell?, h]
theorem P2.frozen (h : P2 t w b v0 v1) (i : Nat) : w.frozen? ⟨b, i, none⟩ = false := by
  unfold P2 at h
  simp [World.frozen?, h]
theorem P2.kp {tt : Nat → Prop} (h : P2 t w b v0 v1) (hk : Kp tt w w') (ht : ¬ tt b) : P2 t w' b v0 v1 := (hk.block b h.lt ht).trans h
theorem P2.new (h : P2 t w b v0 v1) (hb : Below w.heap.size w w') : P2 t w' b v0 v1 := (hb.block b h.lt).trans h
theorem P2.far (h : P2 t w b v0 v1) {p : Addr} (hp : b ≠ p.block) (u : Value) : P2 t (w.setCell p u) b v0 v1 := (Below.heap_setCell w p u b hp).trans h
theorem P2.all (h : P2 t w b v0 v1) (u0 u1 : Value) : P2 t ((w.setCell ⟨b, 0, none⟩ u0).setCell ⟨b, 1, none⟩ u1) b u0 u1 := by
  unfold P2 at h ⊢
  simp [World.setCell, Array.getElem?_modify, h]
theorem P2.far2 (h : P2 t w b v0 v1) {g : Nat} (hg : b ≠ g) (u0 u1 : Value) : P2 t ((w.setCell ⟨g, 0, none⟩ u0).setCell ⟨g, 1, none⟩ u1) b v0 v1 := (h.far (p := ⟨g, 0, none⟩) hg u0).far (p := ⟨g, 1, none⟩) hg u1
theorem P2.alloc (h : P2 t w b v0 v1) (o : Obj) : P2 t (w.alloc o) b v0 v1 := (Below.heap_alloc w o b h.lt).trans h
theorem P2.lit (w : World) (t : TypeId) (v0 v1 : Value) : P2 t (w.alloc (.cells #[v0, v1] t)) w.heap.size v0 v1 := heap_alloc_new w _
theorem P2.no_int (h : P2 t w b v0 v1) (h0 : isI v0 = false) (h1 : isI v1 = false) (o : Nat) (k : IntKind) (x : Int) : w.cell? ⟨b, o, none⟩ ≠ some (.int k x) := by
  unfold P2 at h
  rw [cell_of_row w b o _ t (0, 0) h]
  match o with
  | 0 => intro e; injection e with e; subst e; cases h0
  | 1 => intro e; injection e with e; subst e; cases h1
  | o + 2 => simp
end
/-- Digits lie on where only a block has turned that holds no such integer. -/
theorem LO.apart {k : IntKind} {ok : Nat → Prop} {w w' : World} {v : Value} {l : List Nat} {tt : Nat → Prop} (h : LO k ok w v l) (hk : Kp tt w w') (hn : ∀ g, tt g → g < w.heap.size → ∀ o x, w.cell? ⟨g, o, none⟩ ≠ some (.int k x)) : LO k ok w' v l := by
  rcases h with h | ⟨b, off, c, h1, h2, ho, h4, h5⟩
  · exact .inl h
  · refine .inr ⟨b, off, c, h1, h2, ho, Nat.lt_of_lt_of_le h4 hk.size, fun j v hj => ?_⟩
    have h6 := h5 j v hj
    refine (hk.cell (p := ⟨b, off + j, none⟩) h4 (fun ht => ?_)).trans h6
    exact hn b ht h4 _ _ h6
theorem LO.box {k : IntKind} {ok : Nat → Prop} {t : TypeId} {w : World} {v v0 v1 : Value} {l : List Nat} {b : Nat} (h : LO k ok w v l) (hp : P2 t w b v0 v1) (h0 : isI v0 = false) (h1 : isI v1 = false) (u0 u1 : Value) : LO k ok ((w.setCell ⟨b, 0, none⟩ u0).setCell ⟨b, 1, none⟩ u1) v l :=
  h.apart (tt := (· = b)) (((Kp.refl (· = b) w).setCell (p := ⟨b, 0, none⟩) (fun _ => rfl) u0).setCell (p := ⟨b, 1, none⟩) (fun _ => rfl) u1) (fun g e _ o x => by subst e; exact hp.no_int h0 h1 o k x)
theorem below_box {w0 w : World} {B b : Nat} (h : Below B w0 w) (hb : B ≤ b) (u0 u1 : Value) : Below B w0 ((w.setCell ⟨b, 0, none⟩ u0).setCell ⟨b, 1, none⟩ u1) :=
  (h.setCell (p := ⟨b, 0, none⟩) hb u0).setCell (p := ⟨b, 1, none⟩) hb u1

/-- One box, and the result's. -/
def W2 (t : TypeId) (w : World) (a0 a1 z0 z1 : Value) : World := (w.alloc (.cells #[a0, a1] t)).alloc (.cells #[z0, z1] t)
/-- Two boxes, and the result's. -/
def W3 (t : TypeId) (w : World) (a0 a1 b0 b1 z0 z1 : Value) : World := ((w.alloc (.cells #[a0, a1] t)).alloc (.cells #[b0, b1] t)).alloc (.cells #[z0, z1] t)
section
variable (t : TypeId) (w : World) (a0 a1 b0 b1 z0 z1 : Value)
theorem W2_a : P2 t (W2 t w a0 a1 z0 z1) w.heap.size a0 a1 := (P2.lit w t a0 a1).alloc _
theorem W2_z : P2 t (W2 t w a0 a1 z0 z1) (w.heap.size + 1) z0 z1 := by
  have := P2.lit (w.alloc (.cells #[a0, a1] t)) t z0 z1
  rw [World.size_alloc] at this
  exact this
theorem W2_k : Below w.heap.size w (W2 t w a0 a1 z0 z1) := ((Below.refl _ w).alloc (Nat.le_refl _) _).alloc (by simp) _
theorem W3_a : P2 t (W3 t w a0 a1 b0 b1 z0 z1) w.heap.size a0 a1 := ((P2.lit w t a0 a1).alloc _).alloc _
theorem W3_b : P2 t (W3 t w a0 a1 b0 b1 z0 z1) (w.heap.size + 1) b0 b1 := by
  have := P2.lit (w.alloc (.cells #[a0, a1] t)) t b0 b1
  rw [World.size_alloc] at this
  exact this.alloc _
theorem W3_z : P2 t (W3 t w a0 a1 b0 b1 z0 z1) (w.heap.size + 1 + 1) z0 z1 := by
  have := P2.lit ((w.alloc (.cells #[a0, a1] t)).alloc (.cells #[b0, b1] t)) t z0 z1
  rw [World.size_alloc, World.size_alloc] at this
  exact this
theorem W3_k : Below w.heap.size w (W3 t w a0 a1 b0 b1 z0 z1) := (((Below.refl _ w).alloc (Nat.le_refl _) _).alloc (by simp) _).alloc (by simp; omega) _
end
end Go.Proofs.YtbhnaffbgggabaaGreat

namespace Go.Proofs.YtbhnaffbgggabaaGreat
open Go.RowKit

set_option maxRecDepth 100000 in
set_option maxHeartbeats 1600000 in
theorem minus_any (la lb : List Nat) (A A' : Option Addr) (n n' c c' : Nat) (w : World) (hda : Dig 10000 la) (hdb : Dig 10000 lb) (ha : LI .i64 w (.slice A n c) la) (hb : LI .i64 w (.slice A' n' c') lb) (hn : n ≤ 900000) (hn' : n' ≤ 900000) (hle : val 10000 lb ≤ val 10000 la) :
    Calls Tryz.prog 163 #[.slice A n c, .slice A' n' c'] w (RetD .i64 10000 (fun o => val 10000 o = val 10000 la - val 10000 lb ∧ o.length = n) w) := by
  obtain ⟨i0, hi0, hz0, hz1, hz2⟩ := info_parts int_info
  have HA := hJ ha
  have HB := hJ hb
  have HDA := hJ hda
  have HDB := hJ hdb
  have HN := hJ ha.len.1
  have HN' := hJ hb.len.1
  have HLE := hJ hle
  clear ha hb hda hdb hle
  go_enter Tryz.func163, Tryz.ntmps163
  go_wp2
  go_loopw [5, 6, 7] (fun v y i wr => ∃ (k q : Nat) (o : List Nat), k ≤ n ∧ q ≤ 1 ∧ i = .int .i64 k ∧ y = .int .i64 q ∧ o.length = k ∧ Dig 10000 o ∧ val 10000 o + val 10000 (lb.take k) = val 10000 (la.take k) + 10000 ^ k * q ∧ wr.ownsRow w.heap.size 3 1 v k (vs .i64 (nI o)) ∧ Below w.heap.size w wr) (fun _ _ i _ => n - (intOf i).toNat)
  case atStart => exact ⟨0, 0, [], by omega, by omega, rfl, rfl, rfl, dig_nil, by simp [val], World.ownsRow_nil _ _ _ _, Below.refl _ _⟩
  case round =>
    obtain ⟨k, q, o, hk, hq, rfl, rfl, ho, hdo, hv, hown, hbel⟩ := hrel
    have HO := hJ ho
    have HDO := hJ hdo
    have HV := hJ hv
    have HW := hJ hown
    have HBB := hJ hbel
    clear ho hdo hv hown hbel
    obtain ⟨z, hz⟩ : ∃ z : Int, (q : Int) = z := ⟨_, rfl⟩
    rw [hz]
    have HZ := hJ hz
    have hzl : 0 ≤ z := by omega
    have hzr : z ≤ 1 := by omega
    clear hz
    by_cases hgo : k < n
    · have hxl := dig_getD (B := 10000) (by decide) HDA.out k
      have hyl := dig_getD (B := 10000) (by decide) HDB.out k
      have HST := hJ (fun (d c : Nat) (hd : d + lb.getD k 0 + q = la.getD k 0 + 10000 * c) => (minus_step (c := c) HO.out HV.out hd : val 10000 (o ++ [d]) + (val 10000 (lb.take k) + 10000 ^ k * lb.getD k 0) = (val 10000 (la.take k) + 10000 ^ k * la.getD k 0) + 10000 ^ (k + 1) * c))
      rw [← val_take_succ, ← val_take_succ] at HST
      have HA1 := hJ (at_any la A n c k wr (HA.out.new HBB.out) (by omega) (by omega))
      have HB1 := hJ (at_any lb A' n' c' k wr (HB.out.new HBB.out) (by omega) (by omega))
      generalize la.getD k 0 = x at hxl HST HA1
      generalize lb.getD k 0 = y at hyl HST HB1
      obtain ⟨X, hX⟩ : ∃ X : Int, (x : Int) = X := ⟨_, rfl⟩
      obtain ⟨Y, hY⟩ : ∃ Y : Int, (y : Int) = Y := ⟨_, rfl⟩
      rw [hX] at HA1
      rw [hY] at HB1
      have hX1 : 0 ≤ X := by omega
      have hX2 : X < 10000 := by omega
      have hY1 : 0 ≤ Y := by omega
      have hY2 : Y < 10000 := by omega
      have HX := hJ hX
      have HY := hJ hY
      clear hX hY hxl hyl
      have HO2 := hJ (show k + 1 ≤ maxLen by unfold maxLen; omega)
      have HO3 := hJ (show (k + 1) * 8 ≤ 140737488355328 by omega)
      have HO4 := hJ HBB.out.size
      have HW1 := fun o => hJ (HW.out.alloc o)
      have key : ∀ (w1 : World) (v' : Value) (D C : Int), 0 ≤ D → D < 10000 → 0 ≤ C → C ≤ 1 → D + Y + z = X + 10000 * C → w1.ownsRow w.heap.size 3 1 v' (k + 1) (vs .i64 (nI o) ++ [.int .i64 D]) → Below w.heap.size w w1 →
          ∃ (k' q' : Nat) (o' : List Nat), k' ≤ n ∧ q' ≤ 1 ∧ Value.int .i64 ((k : Int) + 1) = .int .i64 k' ∧ Value.int .i64 C = .int .i64 q' ∧ o'.length = k' ∧ Dig 10000 o' ∧ val 10000 o' + val 10000 (lb.take k') = val 10000 (la.take k') + 10000 ^ k' * q' ∧ w1.ownsRow w.heap.size 3 1 v' k' (vs .i64 (nI o')) ∧ Below w.heap.size w w1 := by
        intro w1 v' D C hD1 hD2 hC1 hC2 hDC h1 h2
        have e1 := HX.out
        have e2 := HY.out
        have e3 := HZ.out
        obtain ⟨d, rfl⟩ : ∃ d : Nat, D = d := ⟨D.toNat, by omega⟩
        obtain ⟨b, rfl⟩ : ∃ b : Nat, C = b := ⟨C.toNat, by omega⟩
        exact ⟨k + 1, b, o ++ [d], by omega, by omega, by go_num, rfl, by rw [List.length_append, HO.out]; rfl, dig_snoc HDO.out (by omega), HST.out d b (by omega), own_snocN HO.out h1 rfl, h2⟩
      have KEY := hJ key
      clear key
      by_cases hneg : X < Y + z
      all_goals
        go_wp2_with fail
        refine HA1.out.mono ?_
        rintro e w' ⟨rfl, rfl⟩
        go_wp2_with fail
        refine HB1.out.mono ?_
        rintro e w' ⟨rfl, rfl⟩
        go_wp2_with (at_builtin; refine wpList_append_own _ rfl _ _ 22 rfl w.heap.size 3 i0 (.int .i64 0) 1 8 Tryz.underlying22 hi0 hz0 hz1 hz2 rfl (by decide) _ _ _ rfl (HW1 _).out ⟨wr.heap.size, 0, none⟩ 1 1 [_] rfl rfl (cell_one_new _ _ _) (one_cells _ _) HO2.out HO3.out (alloc_ge HO4.out) ?_; intro v' w1 hown' hgrow _)
      · have HE := hJ (KEY.out w1 v' (X - Y - z + 10000) 1 (by omega) (by omega) (by omega) (by omega) (by omega) hown' ((HBB.out.alloc HO4.out _).grown hgrow (alloc_ge HO4.out) (own_block_ge (HW1 (.cells #[] 0)).out)))
        clear hown' hgrow
        go_roundw
        case rel => exact HE.out
        case measure => simp [intOf]; omega
      · have HE := hJ (KEY.out w1 v' (X - Y - z) 0 (by omega) (by omega) (by omega) (by omega) (by omega) hown' ((HBB.out.alloc HO4.out _).grown hgrow (alloc_ge HO4.out) (own_block_ge (HW1 (.cells #[] 0)).out)))
        clear hown' hgrow
        go_roundw
        case rel => exact HE.out
        case measure => simp [intOf]; omega
    · obtain rfl : k = n := by omega
      obtain ⟨a5, c5, rfl⟩ := own_form HW.out
      go_wp2
      go_ret
      refine ⟨a5, k, c5, o, rfl, LO.own HW.out, HO.out, HDO.out, ⟨?_, HO.out⟩, HBB.out⟩
      have e1 := HV.out
      have e2 := val_take_add (B := 10000) lb k
      have e3 := val_lt (B := 10000) (by decide) HDA.out
      have e4 := val_lt (B := 10000) (by decide) HDO.out
      have e5 := HLE.out
      rw [HN.out] at e3
      rw [HO.out] at e4
      rw [val_take_all (l := la) (by rw [HN.out]; exact Nat.le_refl _)] at e1
      have e6 : val 10000 (lb.drop k) = 0 := by
        rcases Nat.eq_zero_or_pos (val 10000 (lb.drop k)) with e | e
        · exact e
        · have := Nat.mul_le_mul_left (10000 ^ k) e
          omega
      rw [e6, Nat.mul_zero] at e2
      rcases Nat.eq_zero_or_pos q with e | e
      · subst e; omega
      · have := Nat.mul_le_mul_left (10000 ^ k) e
        omega
end Go.Proofs.YtbhnaffbgggabaaGreat

namespace Go.Proofs.YtbhnaffbgggabaaGreat
open Go.RowKit
attribute [local go_sem ↓] Go.wp_at_zero Go.wp_at_succ

theorem N_size : (Tryz.prog.info? 24).map (·.size) = some 2 := by kernel_rfl
theorem RNo.stored {ok : Nat → Prop} {x : Int} {w w6 : World} {neg : Bool} {A : Option Addr} {n c B : Nat} {z0 z1 : Value} {t : TypeId} (h : RNo ok w6 neg A n c x) (hp : P2 t w6 B z0 z1) (h0 : isI z0 = false) (h1 : isI z1 = false) (hb : Below w.heap.size w w6) (hB : w.heap.size ≤ B) (u0 u1 : Value) :
    RetNo ok x w (.returned (.agg #[.bool neg, .slice A n c])) ((w6.setCell ⟨B, 0, none⟩ u0).setCell ⟨B, 1, none⟩ u1) :=
  ⟨neg, A, n, c, rfl, ⟨h.1, h.2.1, h.2.2.box hp h0 h1 u0 u1⟩, below_box hb hB u0 u1⟩
theorem RNo.eq {ok : Nat → Prop} {w : World} {neg : Bool} {A : Option Addr} {n c : Nat} {x y : Int} (h : RNo ok w neg A n c x) (e : x = y) : RNo ok w neg A n c y := e ▸ h
theorem sgn_not (x : Int) : sgn (!decide (x < 0)) x.natAbs = -x := by
  unfold sgn
  by_cases h : x < 0
  · simp [h]; omega
  · simp [h]; omega
theorem val_rn (x : Int) : val 10000 (digs 10000 x.natAbs) = x.natAbs := val_digs (by decide) _

set_option maxRecDepth 100000 in
set_option maxHeartbeats 1600000 in
theorem neg_any (x : Int) (neg : Bool) (A : Option Addr) (n c : Nat) (w : World) (h : RN w neg A n c x) (hn : n ≤ 900000) :
    Calls Tryz.prog 20 #[.agg #[.bool neg, .slice A n c]] w (RetN (-x) w) := by
  have HS := hJ h.1
  have HL := hJ h.2.2
  clear h
  have HK := hJ (W2_k 24 w (.bool neg) (.slice A n c) (.bool false) (.slice none 0 0))
  have HZ := hJ (W2_z 24 w (.bool neg) (.slice A n c) (.bool false) (.slice none 0 0))
  go_enter Tryz.func20, Tryz.ntmps20
  go_wp2_with fail
  refine (normal_any (!neg) _ A n c (W2 24 w (.bool neg) (.slice A n c) (.bool false) (.slice none 0 0)) (dig_digs (by decide) x.natAbs) (HL.out.new HK.out) (by omega)).mono ?_
  rintro e w6 ⟨neg6, A6, n6, c6, rfl, hrn, hb6⟩
  have hp := HZ.out.new hb6
  obtain ⟨hc0, hc1⟩ := hp.cells
  have hf0 := hp.frozen 0
  have hf1 := hp.frozen 1
  have HP := hJ hp
  have HR := hJ (hrn.eq (y := -x) (by rw [val_rn, HS.out, sgn_not]))
  have HB := hJ (HK.out.trans (hb6.mono HK.out.size))
  clear hp hrn hb6
  go_wp2
  exact bodyPost_ret (results_cell_row rfl _ _ _ _ _ _ _ rfl (HP.out.all (.bool neg6) (.slice A6 n6 c6)) Tryz.underlying24 rfl N_size) rfl (RNo.stored HR.out HP.out rfl rfl HB.out (by omega) _ _)

/-- -1, 0 or 1. -/
def cmpI (a b : Int) : Int := if a < b then -1 else if b < a then 1 else 0
theorem cmpI_np {a b : Int} (ha : a < 0) (hb : ¬ b < 0) : cmpI a b = -1 := by rw [cmpI, if_pos (by omega)]
theorem cmpI_pn {a b : Int} (ha : ¬ a < 0) (hb : b < 0) : cmpI a b = 1 := by rw [cmpI, if_neg (by omega), if_pos (by omega)]
theorem cmpI_nn {a b : Int} (ha : a < 0) (hb : b < 0) : cmpI a b = cmpN b.natAbs a.natAbs := by
  unfold cmpI cmpN
  split <;> split <;> (try split) <;> (try split) <;> omega
theorem cmpI_pp {a b : Int} (ha : ¬ a < 0) (hb : ¬ b < 0) : cmpI a b = cmpN a.natAbs b.natAbs := by
  unfold cmpI cmpN
  split <;> split <;> (try split) <;> (try split) <;> omega
set_option maxRecDepth 100000 in
set_option maxHeartbeats 1600000 in
theorem rcompare_any (x y : Int) (neg neg' : Bool) (A A' : Option Addr) (n c n' c' : Nat) (w : World) (hx : RN w neg A n c x) (hy : RN w neg' A' n' c' y) (hn : n ≤ 900000) (hn' : n' ≤ 900000) :
    Calls Tryz.prog 117 #[.agg #[.bool neg, .slice A n c], .agg #[.bool neg', .slice A' n' c']] w fun e w' => e = .returned (.int .i64 (cmpI x y)) ∧ Below w.heap.size w w' := by
  have HSX := hJ hx.1
  have HSY := hJ hy.1
  have HLX := hJ hx.2.2
  have HLY := hJ hy.2.2
  clear hx hy
  have hb0 : ∀ o o' : Obj, Below w.heap.size w ((w.alloc o).alloc o') := fun o o' => ((Below.refl _ w).alloc (Nat.le_refl _) o).alloc (by simp) o'
  have HB := hJ hb0
  clear hb0
  cases neg <;> cases neg'
  · have HE := hJ (cmpI_pp (a := x) (b := y) (by have := HSX.out; simpa using this.symm) (by have := HSY.out; simpa using this.symm))
    go_enter Tryz.func117, Tryz.ntmps117
    go_wp2_with fail
    refine (compared_any x.natAbs y.natAbs A A' n n' c c' _ (HLX.out.new (HB.out _ _)) (HLY.out.new (HB.out _ _)) (by omega) (by omega)).mono ?_
    rintro e w' ⟨rfl, hb⟩
    have HB2 := hJ ((HB.out _ _).trans (hb.mono (HB.out _ _).size))
    clear hb
    go_wp2
    go_ret
    exact ⟨ret_int HE.out.symm, HB2.out⟩
  · have HE := hJ (cmpI_pn (a := x) (b := y) (by have := HSX.out; simpa using this.symm) (by have := HSY.out; simpa using this.symm))
    go_enter Tryz.func117, Tryz.ntmps117
    go_wp2_with fail
    go_ret
    exact ⟨ret_int HE.out.symm, HB.out _ _⟩
  · have HE := hJ (cmpI_np (a := x) (b := y) (by have := HSX.out; simpa using this.symm) (by have := HSY.out; simpa using this.symm))
    go_enter Tryz.func117, Tryz.ntmps117
    go_wp2_with fail
    go_ret
    exact ⟨ret_int HE.out.symm, HB.out _ _⟩
  · have HE := hJ (cmpI_nn (a := x) (b := y) (by have := HSX.out; simpa using this.symm) (by have := HSY.out; simpa using this.symm))
    go_enter Tryz.func117, Tryz.ntmps117
    go_wp2_with fail
    refine (compared_any y.natAbs x.natAbs A' A n' n c' c _ (HLY.out.new (HB.out _ _)) (HLX.out.new (HB.out _ _)) (by omega) (by omega)).mono ?_
    rintro e w' ⟨rfl, hb⟩
    have HB2 := hJ ((HB.out _ _).trans (hb.mono (HB.out _ _).size))
    clear hb
    go_wp2
    go_ret
    exact ⟨ret_int HE.out.symm, HB2.out⟩
end Go.Proofs.YtbhnaffbgggabaaGreat

namespace Go.Proofs.YtbhnaffbgggabaaGreat
open Go.RowKit
attribute [local go_sem ↓] Go.wp_at_zero Go.wp_at_succ

theorem digs_len9 {B : Nat} (hB : 2 ≤ B) {l : List Nat} (h : Dig B l) : (digs B (val B l)).length ≤ l.length := digs_len_le hB (val_lt (by omega) h)
theorem cells4 {t : TypeId} {w : World} {b b' : Nat} {v0 v1 u0 u1 : Value} (h : P2 t w b v0 v1) (h' : P2 t w b' u0 u1) :
    w.cell? ⟨b, 0, none⟩ = some v0 ∧ w.cell? ⟨b, 1, none⟩ = some v1 ∧ w.cell? ⟨b', 0, none⟩ = some u0 ∧ w.cell? ⟨b', 1, none⟩ = some u1 := ⟨h.cells.1, h.cells.2, h'.cells.1, h'.cells.2⟩
theorem add_same {x y : Int} {s : Bool} (hx : s = decide (x < 0)) (hy : s = decide (y < 0)) : sgn s (x.natAbs + y.natAbs) = x + y := by
  subst hx
  unfold sgn
  by_cases h : x < 0 <;> by_cases h' : y < 0 <;> simp [h, h'] at hy ⊢ <;> omega
theorem add_gt {x y : Int} {s s' : Bool} (hx : s = decide (x < 0)) (hy : s' = decide (y < 0)) (hne : s ≠ s') (h : y.natAbs ≤ x.natAbs) : sgn s (x.natAbs - y.natAbs) = x + y := by
  subst hx hy
  unfold sgn
  by_cases h1 : x < 0 <;> by_cases h2 : y < 0 <;> simp [h1, h2] at hne ⊢ <;> omega
theorem add_lt {x y : Int} {s s' : Bool} (hx : s = decide (x < 0)) (hy : s' = decide (y < 0)) (hne : s ≠ s') (h : x.natAbs ≤ y.natAbs) : sgn s' (y.natAbs - x.natAbs) = x + y := by
  subst hx hy
  unfold sgn
  by_cases h1 : x < 0 <;> by_cases h2 : y < 0 <;> simp [h1, h2] at hne ⊢ <;> omega

set_option maxRecDepth 100000 in
set_option maxHeartbeats 1600000 in
theorem add_same_any (x y : Int) (s : Bool) (A A' : Option Addr) (n c n' c' : Nat) (w : World) (hx : RN w s A n c x) (hy : RN w s A' n' c' y) (hn : n ≤ 900000) (hn' : n' ≤ 900000) :
    Calls Tryz.prog 96 #[.agg #[.bool s, .slice A n c], .agg #[.bool s, .slice A' n' c']] w (RetN (x + y) w) := by
  have HSX := hJ hx.1
  have HSY := hJ hy.1
  have HN := hJ hx.2.1
  have HN' := hJ hy.2.1
  have HLX := hJ hx.2.2
  have HLY := hJ hy.2.2
  clear hx hy
  have HK := hJ (show Below w.heap.size w (W3 24 w (.bool s) (.slice A n c) (.bool s) (.slice A' n' c') (.bool false) (.slice none 0 0)).drew from (W3_k 24 w (.bool s) (.slice A n c) (.bool s) (.slice A' n' c') (.bool false) (.slice none 0 0)).drew)
  have HA := hJ (show P2 24 (W3 24 w (.bool s) (.slice A n c) (.bool s) (.slice A' n' c') (.bool false) (.slice none 0 0)).drew w.heap.size (.bool s) (.slice A n c) from (W3_a 24 w (.bool s) (.slice A n c) (.bool s) (.slice A' n' c') (.bool false) (.slice none 0 0)))
  have HB := hJ (show P2 24 (W3 24 w (.bool s) (.slice A n c) (.bool s) (.slice A' n' c') (.bool false) (.slice none 0 0)).drew (w.heap.size + 1) (.bool s) (.slice A' n' c') from (W3_b 24 w (.bool s) (.slice A n c) (.bool s) (.slice A' n' c') (.bool false) (.slice none 0 0)))
  have HZ := hJ (show P2 24 (W3 24 w (.bool s) (.slice A n c) (.bool s) (.slice A' n' c') (.bool false) (.slice none 0 0)).drew (w.heap.size + 1 + 1) (.bool false) (.slice none 0 0) from (W3_z 24 w (.bool s) (.slice A n c) (.bool s) (.slice A' n' c') (.bool false) (.slice none 0 0)))
  go_enter Tryz.func96, Tryz.ntmps96
  go_wp2_with fail
  go_region_held3 (fun w' => w'.cell? ⟨w.heap.size, 0, none⟩ = some (.bool s) ∧ w'.cell? ⟨w.heap.size, 1, none⟩ = some (.slice A n c) ∧ w'.cell? ⟨w.heap.size + 1, 0, none⟩ = some (.bool s) ∧ w'.cell? ⟨w.heap.size + 1, 1, none⟩ = some (.slice A' n' c')) (first | assumption | exact cells4 HA.out HB.out | exact cells4 (hA6.out.far2 (by omega) _ _) (hB6.out.far2 (by omega) _ _) | go_keep)
    (first | (go_at_call 161; refine (plus_any _ _ A A' n n' c c' _ (dig_digs (by decide) x.natAbs) (dig_digs (by decide) y.natAbs) (HLX.out.new HK.out) (HLY.out.new HK.out) hn hn').mono ?_; rintro e w5 ⟨A5, n5, c5, o5, rfl, hli5, hlo5, hd5, ⟨hv5, hlen5⟩, hb5⟩; have hS5 := cells4 (HA.out.new hb5) (HB.out.new hb5)) | (go_at_call 97; refine (normal_any s o5 A5 n5 c5 _ hd5 hli5.weak (by omega)).mono ?_; rintro e w6 ⟨neg6, A6, n6, c6, rfl, hrn, hb6⟩; have hA6 := hJ ((HA.out.new hb5).new hb6); have hB6 := hJ ((HB.out.new hb5).new hb6); have hZ6 := hJ ((HZ.out.new hb5).new hb6); have hS6 := cells4 ((HA.out.new hb5).new hb6) ((HB.out.new hb5).new hb6); have hc60 := ((HZ.out.new hb5).new hb6).cells.1; have hc61 := ((HZ.out.new hb5).new hb6).cells.2; have hf60 := ((HZ.out.new hb5).new hb6).frozen 0; have hf61 := ((HZ.out.new hb5).new hb6).frozen 1))
  have HR := hJ (hrn.eq (y := x + y) (by rw [hv5, val_rn, val_rn]; exact add_same HSX.out HSY.out))
  have HBB := hJ ((HK.out.trans (hb5.mono HK.out.size)).trans (hb6.mono (HK.out.trans (hb5.mono HK.out.size)).size))
  clear hrn hb5 hb6 hS5 hS6
  go_wp2
  exact bodyPost_ret (results_cell_row rfl _ _ _ _ _ _ _ rfl (hZ6.out.all (.bool neg6) (.slice A6 n6 c6)) Tryz.underlying24 rfl N_size) rfl (RNo.stored HR.out hZ6.out rfl rfl HBB.out (by omega) _ _)
set_option maxRecDepth 100000 in
set_option maxHeartbeats 1600000 in
theorem add_lt_any (x y : Int) (s s' : Bool) (A A' : Option Addr) (n c n' c' : Nat) (w : World) (hx : RN w s A n c x) (hy : RN w s' A' n' c' y) (hn : n ≤ 900000) (hn' : n' ≤ 900000) (hne : s ≠ s') (hlt : x.natAbs < y.natAbs) :
    Calls Tryz.prog 96 #[.agg #[.bool s, .slice A n c], .agg #[.bool s', .slice A' n' c']] w (RetN (x + y) w) := by
  have HSX := hJ hx.1
  have HSY := hJ hy.1
  have HN := hJ hx.2.1
  have HN' := hJ hy.2.1
  have HLX := hJ hx.2.2
  have HLY := hJ hy.2.2
  clear hx hy
  have HK := hJ (show Below w.heap.size w (W3 24 w (.bool s) (.slice A n c) (.bool s') (.slice A' n' c') (.bool false) (.slice none 0 0)) from (W3_k 24 w (.bool s) (.slice A n c) (.bool s') (.slice A' n' c') (.bool false) (.slice none 0 0)))
  have HA := hJ (show P2 24 (W3 24 w (.bool s) (.slice A n c) (.bool s') (.slice A' n' c') (.bool false) (.slice none 0 0)) w.heap.size (.bool s) (.slice A n c) from (W3_a 24 w (.bool s) (.slice A n c) (.bool s') (.slice A' n' c') (.bool false) (.slice none 0 0)))
  have HB := hJ (show P2 24 (W3 24 w (.bool s) (.slice A n c) (.bool s') (.slice A' n' c') (.bool false) (.slice none 0 0)) (w.heap.size + 1) (.bool s') (.slice A' n' c') from (W3_b 24 w (.bool s) (.slice A n c) (.bool s') (.slice A' n' c') (.bool false) (.slice none 0 0)))
  have HZ := hJ (show P2 24 (W3 24 w (.bool s) (.slice A n c) (.bool s') (.slice A' n' c') (.bool false) (.slice none 0 0)) (w.heap.size + 1 + 1) (.bool false) (.slice none 0 0) from (W3_z 24 w (.bool s) (.slice A n c) (.bool s') (.slice A' n' c') (.bool false) (.slice none 0 0)))
  have hsb : (s == s') = false := beq_eq_false_iff_ne.2 hne
  obtain ⟨v, hv⟩ : ∃ v, cmpN x.natAbs y.natAbs = v := ⟨_, rfl⟩
  have hv0 : v < 0 := by rw [← hv, cmpN_lt hlt]; decide
  have HV := hJ hv
  clear hv
  go_enter Tryz.func96, Tryz.ntmps96
  go_wp2_with fail
  refine (compared_any x.natAbs y.natAbs A A' n n' c c' (W3 24 w (.bool s) (.slice A n c) (.bool s') (.slice A' n' c') (.bool false) (.slice none 0 0)) (HLX.out.new HK.out) (HLY.out.new HK.out) (by omega) (by omega)).mono ?_
  rintro e w4 ⟨rfl, hb4⟩
  rw [HV.out]
  have HK4 := hJ (show Below w.heap.size w w4.drew from (HK.out.trans (hb4.mono HK.out.size)).drew)
  have HA4 := hJ (show P2 24 w4.drew w.heap.size (.bool s) (.slice A n c) from HA.out.new hb4.drew)
  have HB4 := hJ (show P2 24 w4.drew (w.heap.size + 1) (.bool s') (.slice A' n' c') from HB.out.new hb4.drew)
  have HZ4 := hJ (show P2 24 w4.drew (w.heap.size + 1 + 1) (.bool false) (.slice none 0 0) from HZ.out.new hb4.drew)
  clear hb4
  go_wp2_with fail
  go_region_held3 (fun w' => w'.cell? ⟨w.heap.size, 0, none⟩ = some (.bool s) ∧ w'.cell? ⟨w.heap.size, 1, none⟩ = some (.slice A n c) ∧ w'.cell? ⟨w.heap.size + 1, 0, none⟩ = some (.bool s') ∧ w'.cell? ⟨w.heap.size + 1, 1, none⟩ = some (.slice A' n' c')) (first | assumption | exact cells4 HA4.out HB4.out | exact cells4 (hA6.out.far2 (by omega) _ _) (hB6.out.far2 (by omega) _ _) | go_keep)
    (first | (go_at_call 163; refine (minus_any _ _ A' A n' n c' c _ (dig_digs (by decide) y.natAbs) (dig_digs (by decide) x.natAbs) (HLY.out.new HK4.out) (HLX.out.new HK4.out) hn' hn (by rw [val_rn, val_rn]; omega)).mono ?_; rintro e w5 ⟨A5, n5, c5, o5, rfl, hli5, hlo5, hd5, ⟨hv5, hlen5⟩, hb5⟩; have hS5 := cells4 (HA4.out.new hb5) (HB4.out.new hb5)) | (go_at_call 97; refine (normal_any s' o5 A5 n5 c5 _ hd5 hli5.weak (by omega)).mono ?_; rintro e w6 ⟨neg6, A6, n6, c6, rfl, hrn, hb6⟩; have hA6 := hJ ((HA4.out.new hb5).new hb6); have hB6 := hJ ((HB4.out.new hb5).new hb6); have hZ6 := hJ ((HZ4.out.new hb5).new hb6); have hS6 := cells4 ((HA4.out.new hb5).new hb6) ((HB4.out.new hb5).new hb6); have hc60 := ((HZ4.out.new hb5).new hb6).cells.1; have hc61 := ((HZ4.out.new hb5).new hb6).cells.2; have hf60 := ((HZ4.out.new hb5).new hb6).frozen 0; have hf61 := ((HZ4.out.new hb5).new hb6).frozen 1))
  have HR := hJ (hrn.eq (y := x + y) (by rw [hv5, val_rn, val_rn]; exact add_lt HSX.out HSY.out hne (Nat.le_of_lt hlt)))
  have HBB := hJ ((HK4.out.trans (hb5.mono HK4.out.size)).trans (hb6.mono (HK4.out.trans (hb5.mono HK4.out.size)).size))
  clear hrn hb5 hb6 hS5 hS6
  go_wp2
  exact bodyPost_ret (results_cell_row rfl _ _ _ _ _ _ _ rfl (hZ6.out.all (.bool neg6) (.slice A6 n6 c6)) Tryz.underlying24 rfl N_size) rfl (RNo.stored HR.out hZ6.out rfl rfl HBB.out (by omega) _ _)
set_option maxRecDepth 100000 in
set_option maxHeartbeats 1600000 in
theorem add_ge_any (x y : Int) (s s' : Bool) (A A' : Option Addr) (n c n' c' : Nat) (w : World) (hx : RN w s A n c x) (hy : RN w s' A' n' c' y) (hn : n ≤ 900000) (hn' : n' ≤ 900000) (hne : s ≠ s') (hge : y.natAbs ≤ x.natAbs) :
    Calls Tryz.prog 96 #[.agg #[.bool s, .slice A n c], .agg #[.bool s', .slice A' n' c']] w (RetN (x + y) w) := by
  have HSX := hJ hx.1
  have HSY := hJ hy.1
  have HN := hJ hx.2.1
  have HN' := hJ hy.2.1
  have HLX := hJ hx.2.2
  have HLY := hJ hy.2.2
  clear hx hy
  have HK := hJ (show Below w.heap.size w (W3 24 w (.bool s) (.slice A n c) (.bool s') (.slice A' n' c') (.bool false) (.slice none 0 0)) from (W3_k 24 w (.bool s) (.slice A n c) (.bool s') (.slice A' n' c') (.bool false) (.slice none 0 0)))
  have HA := hJ (show P2 24 (W3 24 w (.bool s) (.slice A n c) (.bool s') (.slice A' n' c') (.bool false) (.slice none 0 0)) w.heap.size (.bool s) (.slice A n c) from (W3_a 24 w (.bool s) (.slice A n c) (.bool s') (.slice A' n' c') (.bool false) (.slice none 0 0)))
  have HB := hJ (show P2 24 (W3 24 w (.bool s) (.slice A n c) (.bool s') (.slice A' n' c') (.bool false) (.slice none 0 0)) (w.heap.size + 1) (.bool s') (.slice A' n' c') from (W3_b 24 w (.bool s) (.slice A n c) (.bool s') (.slice A' n' c') (.bool false) (.slice none 0 0)))
  have HZ := hJ (show P2 24 (W3 24 w (.bool s) (.slice A n c) (.bool s') (.slice A' n' c') (.bool false) (.slice none 0 0)) (w.heap.size + 1 + 1) (.bool false) (.slice none 0 0) from (W3_z 24 w (.bool s) (.slice A n c) (.bool s') (.slice A' n' c') (.bool false) (.slice none 0 0)))
  have hsb : (s == s') = false := beq_eq_false_iff_ne.2 hne
  obtain ⟨v, hv⟩ : ∃ v, cmpN x.natAbs y.natAbs = v := ⟨_, rfl⟩
  have hv0 : ¬ v < 0 := by rw [← hv, cmpN, if_neg (by omega)]; split <;> decide
  have HV := hJ hv
  clear hv
  go_enter Tryz.func96, Tryz.ntmps96
  go_wp2_with fail
  refine (compared_any x.natAbs y.natAbs A A' n n' c c' (W3 24 w (.bool s) (.slice A n c) (.bool s') (.slice A' n' c') (.bool false) (.slice none 0 0)) (HLX.out.new HK.out) (HLY.out.new HK.out) (by omega) (by omega)).mono ?_
  rintro e w4 ⟨rfl, hb4⟩
  rw [HV.out]
  have HK4 := hJ (show Below w.heap.size w w4.drew from (HK.out.trans (hb4.mono HK.out.size)).drew)
  have HA4 := hJ (show P2 24 w4.drew w.heap.size (.bool s) (.slice A n c) from HA.out.new hb4.drew)
  have HB4 := hJ (show P2 24 w4.drew (w.heap.size + 1) (.bool s') (.slice A' n' c') from HB.out.new hb4.drew)
  have HZ4 := hJ (show P2 24 w4.drew (w.heap.size + 1 + 1) (.bool false) (.slice none 0 0) from HZ.out.new hb4.drew)
  clear hb4
  go_wp2_with fail
  go_region_held3 (fun w' => w'.cell? ⟨w.heap.size, 0, none⟩ = some (.bool s) ∧ w'.cell? ⟨w.heap.size, 1, none⟩ = some (.slice A n c) ∧ w'.cell? ⟨w.heap.size + 1, 0, none⟩ = some (.bool s') ∧ w'.cell? ⟨w.heap.size + 1, 1, none⟩ = some (.slice A' n' c')) (first | assumption | exact cells4 HA4.out HB4.out | exact cells4 (hA6.out.far2 (by omega) _ _) (hB6.out.far2 (by omega) _ _) | go_keep)
    (first | (go_at_call 163; refine (minus_any _ _ A A' n n' c c' _ (dig_digs (by decide) x.natAbs) (dig_digs (by decide) y.natAbs) (HLX.out.new HK4.out) (HLY.out.new HK4.out) hn hn' (by rw [val_rn, val_rn]; omega)).mono ?_; rintro e w5 ⟨A5, n5, c5, o5, rfl, hli5, hlo5, hd5, ⟨hv5, hlen5⟩, hb5⟩; have hS5 := cells4 (HA4.out.new hb5) (HB4.out.new hb5)) | (go_at_call 97; refine (normal_any s o5 A5 n5 c5 _ hd5 hli5.weak (by omega)).mono ?_; rintro e w6 ⟨neg6, A6, n6, c6, rfl, hrn, hb6⟩; have hA6 := hJ ((HA4.out.new hb5).new hb6); have hB6 := hJ ((HB4.out.new hb5).new hb6); have hZ6 := hJ ((HZ4.out.new hb5).new hb6); have hS6 := cells4 ((HA4.out.new hb5).new hb6) ((HB4.out.new hb5).new hb6); have hc60 := ((HZ4.out.new hb5).new hb6).cells.1; have hc61 := ((HZ4.out.new hb5).new hb6).cells.2; have hf60 := ((HZ4.out.new hb5).new hb6).frozen 0; have hf61 := ((HZ4.out.new hb5).new hb6).frozen 1))
  have HR := hJ (hrn.eq (y := x + y) (by rw [hv5, val_rn, val_rn]; exact add_gt HSX.out HSY.out hne hge))
  have HBB := hJ ((HK4.out.trans (hb5.mono HK4.out.size)).trans (hb6.mono (HK4.out.trans (hb5.mono HK4.out.size)).size))
  clear hrn hb5 hb6 hS5 hS6
  go_wp2
  exact bodyPost_ret (results_cell_row rfl _ _ _ _ _ _ _ rfl (hZ6.out.all (.bool neg6) (.slice A6 n6 c6)) Tryz.underlying24 rfl N_size) rfl (RNo.stored HR.out hZ6.out rfl rfl HBB.out (by omega) _ _)
theorem add_any (x y : Int) (s s' : Bool) (A A' : Option Addr) (n c n' c' : Nat) (w : World) (hx : RN w s A n c x) (hy : RN w s' A' n' c' y) (hn : n ≤ 900000) (hn' : n' ≤ 900000) :
    Calls Tryz.prog 96 #[.agg #[.bool s, .slice A n c], .agg #[.bool s', .slice A' n' c']] w (RetN (x + y) w) := by
  by_cases h : s = s'
  · subst h
    exact add_same_any x y s A A' n c n' c' w hx hy hn hn'
  · rcases Nat.lt_or_ge x.natAbs y.natAbs with h1 | h1
    · exact add_lt_any x y s s' A A' n c n' c' w hx hy hn hn' h h1
    · exact add_ge_any x y s s' A A' n c n' c' w hx hy hn hn' h h1
end Go.Proofs.YtbhnaffbgggabaaGreat

namespace Go.Proofs.YtbhnaffbgggabaaGreat
open Go.RowKit
attribute [local go_sem ↓] Go.wp_at_zero Go.wp_at_succ

theorem one_block (t : TypeId) (w : World) (v0 v1 : Value) : P2 t (w.alloc (.cells #[v0, v1] t)) w.heap.size v0 v1 := P2.lit w t v0 v1
theorem tm_neg (m : Nat) : (-(m : Int)).tmod 10000 = -((m % 10000 : Nat) : Int) := by rw [Int.neg_tmod]; rfl
theorem td_neg (m : Nat) : (-(m : Int)).tdiv 10000 = -((m / 10000 : Nat) : Int) := by rw [Int.neg_tdiv]; rfl
set_option maxRecDepth 100000 in
set_option maxHeartbeats 1600000 in
theorem of_any (x : Int) (w : World) (hx : (Lit.int .i64 x).wf = true) :
    Calls Tryz.prog 21 #[.int .i64 x] w (RetN x w) := by
  have hb : -9223372036854775808 ≤ x ∧ x ≤ 9223372036854775807 := by
    simpa [Lit.wf, IntKind.min, IntKind.max, IntKind.signed, IntKind.bits] using hx
  obtain ⟨hb1, hb2⟩ := hb
  clear hx
  obtain ⟨i0, hi0, hz0, hz1, hz2⟩ := info_parts int_info
  obtain ⟨W, hW⟩ : ∃ W, w.alloc (.cells #[.bool false, .slice none 0 0] 24) = W := ⟨_, rfl⟩
  have HP := hJ (show P2 24 W w.heap.size (.bool false) (.slice none 0 0) by rw [← hW]; exact one_block _ _ _ _)
  have HK := hJ (show Below w.heap.size w W by rw [← hW]; exact (Below.refl _ w).alloc (Nat.le_refl _) _)
  have HWS := hJ (show w.heap.size < W.heap.size by rw [← hW]; simp)
  obtain ⟨N0, hN0⟩ : ∃ N0, x.natAbs = N0 := ⟨_, rfl⟩
  obtain ⟨neg, hneg⟩ : ∃ neg, decide (x < 0) = neg := ⟨_, rfl⟩
  have HX := hJ (show sgn neg N0 = x by rw [← hneg, ← hN0, sgn_of])
  have HN1 := hJ (show N0 ≤ 9223372036854775808 by omega)
  clear hN0
  go_enter Tryz.func21, Tryz.ntmps21
  go_wp2_with fail
  clear hneg hW
  go_loopw [0, 3, 5] (fun n d _ wr => ∃ (m : Nat) (o : List Nat), n = .int .i64 (sgn neg m) ∧ o.length ≤ 5 ∧ Dig 10000 o ∧ val 10000 o + 10000 ^ o.length * m = N0 ∧ wr.ownsRow W.heap.size 3 1 d o.length (vs .i64 (nI o)) ∧ Below W.heap.size W wr) (fun n _ _ _ => (intOf n).natAbs)
  case atStart => exact ⟨N0, [], by rw [HX.out], by simp, dig_nil, by simp [val], World.ownsRow_nil _ _ _ _, Below.refl _ _⟩
  case round =>
    obtain ⟨m, o, rfl, hlo, hdo, hv, hown, hbel⟩ := hrel
    have HDO := hJ hdo
    have HV := hJ hv
    have HBB := hJ hbel
    obtain ⟨z, hz⟩ : ∃ z, sgn neg m = z := ⟨_, rfl⟩
    rw [hz]
    obtain ⟨k, hk⟩ : ∃ k, o.length = k := ⟨_, rfl⟩
    rw [hk] at hown hlo hv
    have HZ := hJ hz
    have HKK := hJ hk
    have HVK := hJ hv
    have HW := hJ hown
    have HZM := hJ (show z.natAbs = m by rw [← hz, sgn_abs])
    have hmN : m ≤ 9223372036854775808 := by
      have h1 := HN1.out
      have h2 : 1 * m ≤ 10000 ^ k * m := Nat.mul_le_mul_right m (Nat.pow_pos (by decide))
      omega
    have HMN := hJ hmN
    have hz1' : -9223372036854775808 ≤ z := by have := HZM.out; omega
    have hz2' : z ≤ 9223372036854775807 := by
      have h1 := HX.out
      have h3 : 1 * m ≤ 10000 ^ k * m := Nat.mul_le_mul_right m (Nat.pow_pos (by decide))
      rw [← hz]
      unfold sgn at h1 ⊢
      split <;> rename_i hn <;> simp only [hn] at h1 <;> simp at h1 <;> omega
    clear hz hk hown hdo hv hbel hmN HV
    by_cases h0 : z = 0
    · subst h0
      obtain ⟨a5, c5, rfl⟩ := own_form HW.out
      have HLI := hJ (LI.own HW.out)
      have HVO := hJ (show val 10000 o = N0 by
        have := HVK.out
        have hm := HZM.out
        rw [← hm] at this
        simpa using this)
      go_wp2_with fail
      refine (normal_any neg o a5 k c5 wr HDO.out HLI.out (by omega)).mono ?_
      rintro e w6 ⟨neg6, A6, n6, c6, rfl, hrn, hb6⟩
      have hp := (HP.out.new HBB.out).new hb6
      obtain ⟨hc0, hc1⟩ := hp.cells
      have hf0 := hp.frozen 0
      have hf1 := hp.frozen 1
      have HPP := hJ hp
      have HR := hJ (hrn.eq (y := x) (by rw [HVO.out, HX.out]))
      have HB := hJ ((HK.out.trans (HBB.out.mono HK.out.size)).trans (hb6.mono (HK.out.trans (HBB.out.mono HK.out.size)).size))
      clear hp hrn hb6
      go_wp2
      exact bodyPost_ret (results_cell_row rfl _ _ _ _ _ _ _ rfl (HPP.out.all (.bool neg6) (.slice A6 n6 c6)) Tryz.underlying24 rfl N_size) rfl (RNo.stored HR.out HPP.out rfl rfl HB.out (Nat.le_refl _) _ _)
    · have hk4 : k ≤ 4 := by
        have h1 := HVK.out
        have h2 := HN1.out
        have h3 := HZM.out
        rcases Nat.lt_or_ge k 5 with h | h
        · omega
        · obtain rfl : k = 5 := by omega
          have : (10000 : Nat) ^ 5 = 100000000000000000000 := by decide
          rw [this] at h1
          omega
      have HO2 := hJ (show k + 1 ≤ maxLen by unfold maxLen; omega)
      have HO3 := hJ (show (k + 1) * 8 ≤ 140737488355328 by omega)
      have HO4 := hJ HBB.out.size
      have HW1 := fun o => hJ (HW.out.alloc o)
      have key : ∀ (w1 : World) (v' : Value) (D Z : Int), D = ((m % 10000 : Nat) : Int) → Z = sgn neg (m / 10000) → w1.ownsRow W.heap.size 3 1 v' (k + 1) (vs .i64 (nI o) ++ [.int .i64 D]) → Below W.heap.size W w1 →
          ∃ (m' : Nat) (o' : List Nat), Value.int .i64 Z = .int .i64 (sgn neg m') ∧ o'.length ≤ 5 ∧ Dig 10000 o' ∧ val 10000 o' + 10000 ^ o'.length * m' = N0 ∧ w1.ownsRow W.heap.size 3 1 v' o'.length (vs .i64 (nI o')) ∧ Below W.heap.size W w1 := by
        intro w1 v' D Z hD hZ h1 h2
        have hl : (o ++ [m % 10000]).length = k + 1 := by rw [List.length_append, HKK.out]; rfl
        refine ⟨m / 10000, o ++ [m % 10000], by rw [hZ], by rw [hl]; omega, dig_snoc HDO.out (by omega), ?_, by rw [hl]; exact own_snocN HKK.out h1 hD, h2⟩
        have e := HVK.out
        rw [val_snoc, hl, HKK.out, Nat.pow_succ, Nat.mul_assoc, Nat.add_assoc, ← Nat.mul_add, Nat.mod_add_div]
        exact e
      have KEY := hJ key
      clear key
      have HSG := hJ (show (0 < z → z = (m : Int) ∧ neg = false) ∧ (z < 0 → z = -(m : Int) ∧ neg = true) by
        have := HZ.out
        unfold sgn at this
        cases neg <;> simp at this <;> constructor <;> intro h <;> constructor <;> first | rfl | omega)
      by_cases hpos : 0 < z
      · have HA := hJ (HSG.out.1 hpos)
        clear h0
        go_wp2_with (at_builtin; refine wpList_append_own _ rfl _ _ 22 rfl W.heap.size 3 i0 (.int .i64 0) 1 8 Tryz.underlying22 hi0 hz0 hz1 hz2 rfl (by decide) _ _ _ rfl (HW1 _).out ⟨wr.heap.size, 0, none⟩ 1 1 [_] rfl rfl (cell_one_new _ _ _) (one_cells _ _) HO2.out HO3.out (alloc_ge HO4.out) ?_; intro v' w1 hown' hgrow _)
        have HE := hJ (KEY.out w1 v' (z % 10000) (z / 10000) (by have := HA.out.1; omega) (by have := HA.out; rw [this.2, this.1]; unfold sgn; simp) hown' ((HBB.out.alloc HO4.out _).grown hgrow (alloc_ge HO4.out) (own_block_ge (HW1 (.cells #[] 0)).out)))
        clear hown' hgrow
        go_roundw
        case rel => exact HE.out
        case measure => simp [intOf]; omega
      · have hneg : z < 0 := by omega
        have HA := hJ (HSG.out.2 hneg)
        obtain ⟨R, hR⟩ : ∃ R, z.tmod 10000 = R := ⟨_, rfl⟩
        obtain ⟨D, hD⟩ : ∃ D, z.tdiv 10000 = D := ⟨_, rfl⟩
        have HRR := hJ (show R = -((m % 10000 : Nat) : Int) by rw [← hR, HA.out.1, tm_neg])
        have HDD := hJ (show D = -((m / 10000 : Nat) : Int) by rw [← hD, HA.out.1, td_neg])
        have hR1 : -10000 < R := by have := HRR.out; omega
        have hR2 : R ≤ 0 := by have := HRR.out; omega
        have hD1 : -922337203685477581 ≤ D := by have := HDD.out; have := HMN.out; omega
        have hD2 : D ≤ 0 := by have := HDD.out; omega
        clear h0 hpos
        by_cases hR0 : R < 0
        · go_wp2_with (at_builtin; refine wpList_append_own _ rfl _ _ 22 rfl W.heap.size 3 i0 (.int .i64 0) 1 8 Tryz.underlying22 hi0 hz0 hz1 hz2 rfl (by decide) _ _ _ rfl (HW1 _).out ⟨wr.heap.size, 0, none⟩ 1 1 [_] rfl rfl (cell_one_new _ _ _) (one_cells _ _) HO2.out HO3.out (alloc_ge HO4.out) ?_; intro v' w1 hown' hgrow _)
          have HE := hJ (KEY.out w1 v' (-R) D (by have := HRR.out; omega) (by rw [HDD.out, HA.out.2]; rfl) hown' ((HBB.out.alloc HO4.out _).grown hgrow (alloc_ge HO4.out) (own_block_ge (HW1 (.cells #[] 0)).out)))
          clear hown' hgrow
          go_roundw
          case rel => exact HE.out
          case measure => have := HA.out.1; have := HDD.out; simp [intOf]; omega
        · obtain rfl : R = 0 := by omega
          go_wp2_with (at_builtin; refine wpList_append_own _ rfl _ _ 22 rfl W.heap.size 3 i0 (.int .i64 0) 1 8 Tryz.underlying22 hi0 hz0 hz1 hz2 rfl (by decide) _ _ _ rfl (HW1 _).out ⟨wr.heap.size, 0, none⟩ 1 1 [_] rfl rfl (cell_one_new _ _ _) (one_cells _ _) HO2.out HO3.out (alloc_ge HO4.out) ?_; intro v' w1 hown' hgrow _)
          have HE := hJ (KEY.out w1 v' 0 D (by have := HRR.out; omega) (by rw [HDD.out, HA.out.2]; rfl) hown' ((HBB.out.alloc HO4.out _).grown hgrow (alloc_ge HO4.out) (own_block_ge (HW1 (.cells #[] 0)).out)))
          clear hown' hgrow
          go_roundw
          case rel => exact HE.out
          case measure => have := HA.out.1; have := HDD.out; simp [intOf]; omega
end Go.Proofs.YtbhnaffbgggabaaGreat

namespace Go.Proofs.YtbhnaffbgggabaaGreat
open Go.RowKit
attribute [local go_sem ↓] Go.wp_at_zero Go.wp_at_succ

theorem mul_sign {x y : Int} {s s' : Bool} (hx : s = decide (x < 0)) (hy : s' = decide (y < 0)) : sgn (s != s') (x.natAbs * y.natAbs) = x * y := by
  subst hx hy
  have e := Int.natAbs_mul x y
  rw [← e]
  unfold sgn
  by_cases h1 : x < 0 <;> by_cases h2 : y < 0
  · have := Int.mul_pos_of_neg_of_neg h1 h2
    simp [h1, h2]; omega
  · have := Int.mul_nonpos_of_nonpos_of_nonneg (show x ≤ 0 by omega) (show 0 ≤ y by omega)
    simp [h1, h2]; omega
  · have := Int.mul_nonpos_of_nonneg_of_nonpos (show 0 ≤ x by omega) (show y ≤ 0 by omega)
    simp [h1, h2]; omega
  · have := Int.mul_nonneg (show 0 ≤ x by omega) (show 0 ≤ y by omega)
    simp [h1, h2]; omega
theorem sq_bd {X Y : Int} (h1 : 0 ≤ X) (h2 : X < 10000) (h3 : 0 ≤ Y) (h4 : Y < 10000) : 0 ≤ X * Y ∧ X * Y ≤ 99980001 := by
  refine ⟨Int.mul_nonneg h1 h3, ?_⟩
  have := Int.mul_le_mul (show X ≤ 9999 by omega) (show Y ≤ 9999 by omega) h3 (by decide)
  omega
set_option maxRecDepth 100000 in
set_option maxHeartbeats 3200000 in
theorem mul_any (x y : Int) (s s' : Bool) (A A' : Option Addr) (n c n' c' : Nat) (w : World) (hx : RN w s A n c x) (hy : RN w s' A' n' c' y) (hn : n ≤ 400000) (hn' : n' ≤ 400000) :
    Calls Tryz.prog 18 #[.agg #[.bool s, .slice A n c], .agg #[.bool s', .slice A' n' c']] w (RetN (x * y) w) := by
  obtain ⟨i0, hi0, hz0, hz1, hz2⟩ := info_parts int_info
  have HSX := hJ hx.1
  have HSY := hJ hy.1
  have HNX := hJ hx.2.1
  have HNY := hJ hy.2.1
  have HLX := hJ hx.2.2
  have HLY := hJ hy.2.2
  clear hx hy
  have HDX := hJ (dig_digs (B := 10000) (by decide) x.natAbs)
  have HDY := hJ (dig_digs (B := 10000) (by decide) y.natAbs)
  have HVX := hJ (val_rn x)
  have HVY := hJ (val_rn y)
  generalize digs 10000 x.natAbs = la at HNX HLX HDX HVX
  generalize digs 10000 y.natAbs = lb at HNY HLY HDY HVY
  obtain ⟨W, hW⟩ : ∃ W, ((w.alloc (.cells #[.bool s, .slice A n c] 24)).alloc (.cells #[.bool s', .slice A' n' c'] 24)).alloc (.cells #[.bool false, .slice none 0 0] 24) = W := ⟨_, rfl⟩
  have HK := hJ (show Below w.heap.size w W by rw [← hW]; exact W3_k _ _ _ _ _ _ _ _)
  have HA := hJ (show P2 24 W w.heap.size (.bool s) (.slice A n c) by rw [← hW]; exact W3_a _ _ _ _ _ _ _ _)
  have HB := hJ (show P2 24 W (w.heap.size + 1) (.bool s') (.slice A' n' c') by rw [← hW]; exact W3_b _ _ _ _ _ _ _ _)
  have HZ := hJ (show P2 24 W (w.heap.size + 1 + 1) (.bool false) (.slice none 0 0) by rw [← hW]; exact W3_z _ _ _ _ _ _ _ _)
  have HWS := hJ (show w.heap.size + 1 + 1 < W.heap.size from HZ.out.lt)
  obtain ⟨hca0, hca1⟩ := HA.out.cells
  obtain ⟨hcb0, hcb1⟩ := HB.out.cells
  obtain ⟨m, hm⟩ : ∃ m, n + n' = m := ⟨_, rfl⟩
  have hm1 : ((n : Int) + (n' : Int)) = (m : Int) := by omega
  have hm2 : m ≤ 800000 := by omega
  have HM := hJ hm
  have HM1 := hJ hm1
  clear hm hm1
  go_enter Tryz.func18, Tryz.ntmps18
  go_wp2_with (at_make; refine wpList_make_blk _ rfl _ _ 22 rfl 3 i0 .i64 8 Tryz.underlying22 hi0 hz0 hz1 hz2 m _ rfl rfl HM1.out (by decide) (by omega) ?_; intro w2 hblk hb2)
  obtain ⟨G, hG⟩ : ∃ G, W.heap.size = G := ⟨_, rfl⟩
  rw [hG] at hblk hb2 ⊢
  have HGG := hJ hG
  have HBLK := hJ hblk
  have HB2 := hJ hb2
  have HLA := hJ (HLX.out.new HK.out)
  have HLB := hJ (HLY.out.new HK.out)
  clear hG hblk hb2
  go_loopw [6] (fun i wr => ∃ (j : Nat) (o : List Nat), j ≤ n ∧ i = .int .i64 j ∧ MulInv 10000 la lb j o ∧ Blk .i64 wr G 3 o ∧ Below G W wr) (fun i _ => n - (intOf i).toNat)
  case atStart => exact ⟨0, _, Nat.zero_le _, rfl, MulInv.start (by decide) la lb, by rw [HNX.out, HNY.out, HM.out]; exact HBLK.out, HB2.out⟩
  case round =>
    obtain ⟨j, o, hj, rfl, hmi, hblk, hbel⟩ := hrel
    have HMI := hJ hmi
    have HBK := hJ hblk
    have HBB := hJ hbel
    obtain ⟨c1, c2⟩ := (HA.out.kp (Kp.of_below hbel (t := (G ≤ ·)) (fun _ _ h => h)) (by have := HWS.out; have := HGG.out; omega)).cells
    obtain ⟨c3, c4⟩ := (HB.out.kp (Kp.of_below hbel (t := (G ≤ ·)) (fun _ _ h => h)) (by have := HWS.out; have := HGG.out; omega)).cells
    clear hmi hblk hbel hca0 hca1 hcb0 hcb1
    by_cases hlt : j < n
    · have HJL := hJ (show j < la.length by have := HNX.out; omega)
      have HRI := hJ (HMI.out.row (by decide))
      obtain ⟨wo, hwo⟩ : ∃ wo : World, wo = wr := ⟨_, rfl⟩
      rw [← hwo] at HBK HBB c1 c2 c3 c4 ⊢
      clear hwo HMI
      go_wp2
      go_loopw [7, 8] (fun y i wr => ∃ (k q : Nat) (o : List Nat), k ≤ n' ∧ y = .int .i64 q ∧ i = .int .i64 k ∧ RowInv 10000 la lb j k q o ∧ Blk .i64 wr G 3 o ∧ Below G W wr) (fun _ i _ => n' - (intOf i).toNat)
      case atStart => exact ⟨0, 0, o, Nat.zero_le _, rfl, rfl, HRI.out, HBK.out, HBB.out⟩
      case round =>
        clear HRI HBK HBB c1 c2 c3 c4 o
        obtain ⟨k, q, o, hk, rfl, rfl, hri, hblk, hbel⟩ := hrel
        have HRI := hJ hri
        have HBK := hJ hblk
        have HBB := hJ hbel
        obtain ⟨c1, c2⟩ := (HA.out.kp (Kp.of_below hbel (t := (G ≤ ·)) (fun _ _ h => h)) (by have := HWS.out; have := HGG.out; omega)).cells
        obtain ⟨c3, c4⟩ := (HB.out.kp (Kp.of_below hbel (t := (G ≤ ·)) (fun _ _ h => h)) (by have := HWS.out; have := HGG.out; omega)).cells
        have hfr := fun i => hblk.frozen i
        have hol := hri.len
        have HOL := hJ (show o.length = m by rw [hol, HNX.out, HNY.out]; exact HM.out)
        have hq := hri.carry
        clear hri hblk hbel hol
        obtain ⟨C, hC⟩ : ∃ C : Int, (q : Int) = C := ⟨_, rfl⟩
        rw [hC]
        have HC := hJ hC
        have hC1 : 0 ≤ C := by omega
        have hC2 : C < 10000 := by omega
        clear hC hq
        by_cases hkl : k < n'
        · have HKL := hJ (show k < lb.length by have := HNY.out; omega)
          have HST := hJ (HRI.out.step (by decide) HDX.out HDY.out HJL.out HKL.out)
          have hbG := HBB.out
          rw [← HGG.out] at hbG
          obtain ⟨b1, o1, rfl, hb1, hx1⟩ := (HLA.out.new hbG).at_ hlt
          obtain ⟨b2, o2, rfl, hb2', hx2⟩ := (HLB.out.new hbG).at_ hkl
          have hx3 := HBK.out.cell (i := j + k) (by have := HOL.out; have := HM.out; omega)
          have hf3 := HBK.out.frozen (j + k)
          have d1 := dig_getD (B := 10000) (by decide) HDX.out j
          have d2 := dig_getD (B := 10000) (by decide) HDY.out k
          have d3 := dig_getD (B := 10000) (by decide) HRI.out.dig (j + k)
          have HSB := hJ (fun v => HBK.out.set_ (j + k) v)
          clear hbG hfr
          generalize la.getD j 0 = x0 at hx1 d1 HST
          generalize lb.getD k 0 = y0 at hx2 d2 HST
          generalize o.getD (j + k) 0 = z0 at hx3 d3 HST
          obtain ⟨X, hX⟩ : ∃ X : Int, (x0 : Int) = X := ⟨_, rfl⟩
          obtain ⟨Y, hY⟩ : ∃ X : Int, (y0 : Int) = X := ⟨_, rfl⟩
          obtain ⟨Z, hZ⟩ : ∃ X : Int, (z0 : Int) = X := ⟨_, rfl⟩
          rw [hX] at hx1
          rw [hY] at hx2
          rw [hZ] at hx3
          have HX := hJ hX
          have HY := hJ hY
          have HZ0 := hJ hZ
          have hX1 : 0 ≤ X := by omega
          have hX2 : X < 10000 := by omega
          have hY1 : 0 ≤ Y := by omega
          have hY2 : Y < 10000 := by omega
          have hZ1 : 0 ≤ Z := by omega
          have hZ2 : Z < 10000 := by omega
          clear hX hY hZ d1 d2 d3
          obtain ⟨hs1, hs2⟩ := sq_bd hX1 hX2 hY1 hY2
          have hj0 : (0 : Int) ≤ (j : Int) := by omega
          have hk0 : (0 : Int) ≤ (k : Int) := by omega
          have hjn : (j : Int) < (n : Int) := by omega
          have hkn : (k : Int) < (n' : Int) := by omega
          have hjk0 : (0 : Int) ≤ (j : Int) + (k : Int) := by omega
          have hjk1 : (j : Int) + (k : Int) < (m : Int) := by have := HM.out; omega
          have e1 : IntKind.i64.wrap ((j : Int) + (k : Int)) = (j : Int) + (k : Int) := IntWalk.i64_in _ (by omega)
          have e2 : IntKind.i64.wrap (X * Y) = X * Y := IntWalk.i64_in _ (by omega)
          have e3 : IntKind.i64.wrap (Z + X * Y) = Z + X * Y := IntWalk.i64_in _ (by omega)
          have e4 : IntKind.i64.wrap (Z + X * Y + C) = Z + X * Y + C := IntWalk.i64_in _ (by omega)
          have e5 : ((j : Int) + (k : Int)).toNat = j + k := by omega
          go_wp2
          go_quiet (fail)
          clear e1 e2 e3 e4
          have hV1 : 0 ≤ Z + X * Y + C := by omega
          have hV2 : Z + X * Y + C ≤ 100000000 := by omega
          generalize hV : Z + X * Y + C = V at hV1 hV2 ⊢
          have HV := hJ (show V = ((z0 + x0 * y0 + q : Nat) : Int) by
            rw [← hV, ← HX.out, ← HY.out, ← HZ0.out, ← HC.out, Int.natCast_add, Int.natCast_add, Int.natCast_mul])
          clear hV
          go_wp2
          go_roundw
          case rel =>
            have hm := HV.out
            refine ⟨k + 1, (z0 + x0 * y0 + q) / 10000, o.set (j + k) ((z0 + x0 * y0 + q) % 10000), by omega, congrArg _ (by omega), by go_num, HST.out, ?_, ?_⟩
            · have := HSB.out ((z0 + x0 * y0 + q) % 10000)
              rw [show (((z0 + x0 * y0 + q) % 10000 : Nat) : Int) = V % 10000 by omega] at this
              exact this
            · exact (drawn HBB.out _).setCell (p := ⟨G, j + k, none⟩) (Nat.le_refl _) _
          case measure => simp [intOf]; omega
        · obtain rfl : k = n' := by omega
          have HLBL := hJ (show lb.length = k from HNY.out)
          have HDN := hJ (show MulInv 10000 la lb (j + 1) (o.set (j + k) q) by
            have := HRI.out
            rw [← HLBL.out] at this ⊢
            exact this.done HJL.out)
          have hx3 := HBK.out.cell (i := j + k) (by have := HOL.out; have := HM.out; omega)
          have hf3 := HBK.out.frozen (j + k)
          have HSB := hJ (HBK.out.set_ (j + k) q)
          have e5 : ((j : Int) + (k : Int)).toNat = j + k := by omega
          have hjk1 : (j : Int) + (k : Int) < (m : Int) := by have := HM.out; omega
          clear hfr
          go_wp2
          go_roundw
          case rel =>
            refine ⟨j + 1, o.set (j + k) q, by omega, by go_num, HDN.out, ?_, HBB.out.setCell (p := ⟨G, j + k, none⟩) (Nat.le_refl _) _⟩
            have := HSB.out
            rw [HC.out] at this
            exact this
          case measure => simp [intOf]; omega
    · obtain rfl : j = n := by omega
      have HVO := hJ (show val 10000 o = x.natAbs * y.natAbs by
        have h := HMI.out
        rw [← HNX.out] at h
        rw [h.all, HVX.out, HVY.out])
      have HB3 := hJ (show Below W.heap.size W wr by rw [HGG.out]; exact HBB.out)
      go_wp2_with fail
      refine (normal_any (s != s') o (some ⟨G, 0, none⟩) m m wr HMI.out.dig (HBK.out.li0 (by rw [HMI.out.len, HNX.out, HNY.out]; exact HM.out) (Nat.le_refl _)).weak (by omega)).mono ?_
      rintro e w6 ⟨neg6, A6, n6, c6, rfl, hrn, hb6⟩
      have hp := (HZ.out.new HB3.out).new hb6
      obtain ⟨hc0, hc1⟩ := hp.cells
      have hf0 := hp.frozen 0
      have hf1 := hp.frozen 1
      have HPP := hJ hp
      have HR := hJ (hrn.eq (y := x * y) (by rw [HVO.out]; exact mul_sign HSX.out HSY.out))
      have HB4 := hJ ((HK.out.trans (HB3.out.mono HK.out.size)).trans (hb6.mono (HK.out.trans (HB3.out.mono HK.out.size)).size))
      clear hp hrn hb6
      go_wp2
      exact bodyPost_ret (results_cell_row rfl _ _ _ _ _ _ _ rfl (HPP.out.all (.bool neg6) (.slice A6 n6 c6)) Tryz.underlying24 rfl N_size) rfl (RNo.stored HR.out HPP.out rfl rfl HB4.out (by omega) _ _)
end Go.Proofs.YtbhnaffbgggabaaGreat

namespace Go.Proofs.YtbhnaffbgggabaaGreat
open Go.RowKit
attribute [local go_sem ↓] Go.wp_at_zero Go.wp_at_succ

/-- What a function returns that returns the digits of a number. -/
def RetX (v : Nat) (w : World) (e : Ending) (w' : World) : Prop := ∃ A n c, e = .returned (.slice A n c) ∧ LI .i64 w' (.slice A n c) (digs 10000 v) ∧ (digs 10000 v).length = n ∧ Below w.heap.size w w'
theorem RN.of_nat {w : World} {A : Option Addr} {n c : Nat} {v : Nat} (h : LI .i64 w (.slice A n c) (digs 10000 v)) : RN w false A n c (v : Int) :=
  ⟨(decide_eq_false (by omega)).symm, by rw [Int.natAbs_natCast]; exact h.len.1, by rw [Int.natAbs_natCast]; exact h⟩
theorem wf_small {k : Nat} (h : k ≤ 1000000) : (Lit.int .i64 (k : Int)).wf = true := WalkArith.wf_i64 (by omega)
set_option maxRecDepth 100000 in
set_option maxHeartbeats 1600000 in
theorem small_any (x k : Nat) (A : Option Addr) (n c : Nat) (w : World) (h : LI .i64 w (.slice A n c) (digs 10000 x)) (hn : n ≤ 300000) (hk : k ≤ 9999) :
    Calls Tryz.prog 218 #[.slice A n c, .int .i64 (k : Int)] w (RetX (x * k) w) := by
  have HL := hJ h
  have HW := hJ (wf_small (k := k) (by omega))
  have HK4 := hJ (digs_len_le (B := 10000) (n := k) (k := 1) (by decide) (by omega))
  clear h
  go_enter Tryz.func218, Tryz.ntmps218
  go_wp2_with fail
  refine (of_any (k : Int) w HW.out).mono ?_
  rintro e w4 ⟨neg4, A4, n4, c4, rfl, hrn4, hb4⟩
  have HR4 := hJ hrn4
  have HB4 := hJ hb4
  have HN4 := hJ (show n4 ≤ 1 by have := hrn4.2.1; rw [Int.natAbs_natCast] at this; rw [← this]; exact HK4.out)
  clear hrn4 hb4
  go_wp2_with fail
  refine (mul_any (x : Int) (k : Int) false neg4 A A4 n c n4 c4 w4 (RN.of_nat (HL.out.new HB4.out)) HR4.out (by omega) (by have := HN4.out; omega)).mono ?_
  rintro e w6 ⟨neg6, A6, n6, c6, rfl, hrn6, hb6⟩
  have e1 : ((x : Int) * (k : Int)).natAbs = x * k := by rw [Int.natAbs_mul, Int.natAbs_natCast, Int.natAbs_natCast]
  obtain ⟨h61, h62, h63⟩ := hrn6
  rw [e1] at h62 h63
  have HN6 := hJ h62
  have HL6 := hJ h63
  have HB6 := hJ (HB4.out.trans (hb6.mono HB4.out.size))
  clear h61 h62 h63 hb6 e1
  go_wp2
  go_ret
  exact ⟨A6, n6, c6, rfl, HL6.out.alloc _, HN6.out, HB6.out.alloc HB6.out.size _⟩

/-- What divided returns. -/
def RetQ (q r : Nat) (w : World) (e : Ending) (w' : World) : Prop := ∃ A1 n1 c1 A2 n2 c2 o, e = .returned (.tuple #[.slice A1 n1 c1, .slice A2 n2 c2]) ∧ LI .i64 w' (.slice A1 n1 c1) o ∧ Dig 10000 o ∧ n1 ≤ 200000 ∧ val 10000 o = q ∧ LI .i64 w' (.slice A2 n2 c2) (digs 10000 r) ∧ (digs 10000 r).length = n2 ∧ Below w.heap.size w w'
theorem digs_cons (d r : Nat) : val 10000 (d :: digs 10000 r) = d + 10000 * r := by rw [val, val_digs (by decide)]
theorem dig_cons_digs {d r : Nat} (hd : d < 10000) : Dig 10000 (d :: digs 10000 r) := dig_cons.2 ⟨hd, dig_digs (by decide) r⟩
theorem sgn_false (v : Nat) : sgn false v = (v : Int) := rfl
theorem boxed_new (t : TypeId) (w : World) (v0 v1 : Value) : (w.alloc (.cells #[v0, v1] t)).cell? ⟨w.heap.size, 1, none⟩ = some v1 := (P2.lit w t v0 v1).cells.2

set_option maxRecDepth 100000 in
set_option maxHeartbeats 3200000 in
theorem divided_any (x b : Nat) (A A' : Option Addr) (n n' c c' : Nat) (w : World) (hb : 0 < b) (hx : LI .i64 w (.slice A n c) (digs 10000 x)) (hy : LI .i64 w (.slice A' n' c') (digs 10000 b)) (hn : n ≤ 200000) (hn' : n' ≤ 200000) :
    Calls Tryz.prog 171 #[.slice A n c, .slice A' n' c'] w (RetQ (x / b) (x % b) w) := by
  obtain ⟨i0, hi0, hz0, hz1, hz2⟩ := info_parts int_info
  have HNX := hJ hx.len.1
  have HNY := hJ hy.len.1
  have HLX := hJ hx
  have HLY := hJ hy
  have HDX := hJ (dig_digs (B := 10000) (by decide) x)
  have HVX := hJ (val_digs (B := 10000) (by decide) x)
  have HLTB := hJ (digs_lt (B := 10000) (by decide) b)
  clear hx hy
  generalize digs 10000 x = la at HNX HLX HDX HVX
  go_enter Tryz.func171, Tryz.ntmps171
  go_wp2_with (at_make; refine wpList_make_blk _ rfl _ _ 22 rfl 3 i0 .i64 8 Tryz.underlying22 hi0 hz0 hz1 hz2 n _ rfl rfl rfl (by decide) (by omega) ?_; intro w2 hblk hb2)
  obtain ⟨G, hG⟩ : ∃ G, w.heap.size = G := ⟨_, rfl⟩
  rw [hG] at hblk hb2 ⊢
  have HGG := hJ hG
  have HBLK := hJ hblk
  have HB2 := hJ hb2
  clear hG hblk hb2
  go_loopw [8, 7] (fun i v wr => ∃ (z : Int) (A2 : Option Addr) (k2 c2 r : Nat) (oq : List Nat), -1 ≤ z ∧ z < (n : Int) ∧ i = .int .i64 z ∧ v = .slice A2 k2 c2 ∧ LI .i64 wr (.slice A2 k2 c2) (digs 10000 r) ∧ r < b ∧ oq.length = n ∧ Dig 10000 oq ∧ val 10000 (la.drop (z + 1).toNat) = val 10000 (oq.drop (z + 1).toNat) * b + r ∧ Blk .i64 wr G 3 oq ∧ Below G w wr) (fun i _ _ => (intOf i + 1).toNat)
  case atStart =>
    refine ⟨(n : Int) - 1, none, 0, 0, 0, List.replicate n 0, by omega, by omega, rfl, rfl, by rw [digs_zero]; exact LO.nil, hb, by simp, dig_zeros (by decide) n, ?_, HBLK.out, HB2.out⟩
    rw [List.drop_of_length_le (by rw [HNX.out]; omega), List.drop_of_length_le (by rw [List.length_replicate]; omega)]
    simp [val]
  case round =>
    obtain ⟨z, A2, k2, c2, r, oq, hz1', hz2', rfl, rfl, hlr, hrb, hql, hqd, hval, hblk, hbel⟩ := hrel
    have HLR := hJ hlr
    have HQL := hJ hql
    have HQD := hJ hqd
    have HVL := hJ hval
    have HBK := hJ hblk
    have HBB := hJ hbel
    have HRB := hJ hrb
    have HK2 := hJ hlr.len.1
    clear hlr hql hqd hval hblk hbel hrb
    by_cases hz : 0 ≤ z
    · obtain ⟨j, rfl⟩ : ∃ j : Nat, z = (j : Int) := ⟨z.toNat, by omega⟩
      have HBBw := hJ (show Below w.heap.size w wr by rw [HGG.out]; exact HBB.out)
      obtain ⟨b1, o1, rfl, hb1, hx1⟩ := (HLX.out.new HBBw.out).at_ (j := j) (by omega)
      have hk2 : k2 ≤ n' := by
        rw [← HK2.out, ← HNY.out]
        exact digs_len_mono (by decide) (Nat.le_of_lt HRB.out)
      have d1 := dig_getD (B := 10000) (by decide) HDX.out j
      have HVD := hJ (val_drop (B := 10000) la j)
      have HVQ := hJ (show val 10000 (la.drop (j + 1)) = val 10000 (oq.drop (j + 1)) * b + r from HVL.out)
      generalize la.getD j 0 = x0 at hx1 d1 HVD
      obtain ⟨X, hX⟩ : ∃ X : Int, (x0 : Int) = X := ⟨_, rfl⟩
      rw [hX] at hx1
      have HX := hJ hX
      have HD1 := hJ d1
      clear hX d1 HVL
      have hj0 : (0 : Int) ≤ (j : Int) := by omega
      have hjn : (j : Int) < (n : Int) := by omega
      have HO2 := hJ (show 1 + k2 ≤ maxLen by unfold maxLen; omega)
      have HO3 := hJ (show (1 + k2) * 8 ≤ 140737488355328 by omega)
      have HLit := hJ (own_lit .i64 wr 3 [X] (by unfold maxLen; simp))
      have HLR1 := hJ (HLR.out.alloc (.cells #[.int .i64 X] 3))
      go_wp2_with (at_builtin; refine wpList_append_in rfl _ _ 22 rfl wr.heap.size 3 i0 (.int .i64 0) 8 Tryz.underlying22 hi0 hz0 hz1 hz2 rfl _ _ _ rfl HLit.out .i64 _ _ _ _ _ rfl HLR1.out HO2.out HO3.out (by simp) ?_; intro v' w3 hown' hgrow)
      obtain ⟨A3, C3, rfl⟩ := own_form hown'
      have HW3 := hJ (show w3.ownsRow wr.heap.size 3 1 (.slice A3 (1 + k2) C3) (1 + k2) (vs .i64 (nI (x0 :: digs 10000 r))) by
        rw [nI, List.map_cons, vs, List.map_cons, HX.out]
        exact hown')
      have HB3 := hJ (((Below.refl wr.heap.size wr).alloc (Nat.le_refl _) (.cells (vs .i64 [X]).toArray 3)).grown hgrow (by simp) (own_block_ge HLit.out))
      clear hown' hgrow
      go_wp2_with fail
      refine (normal_any false (x0 :: digs 10000 r) A3 (1 + k2) C3 w3 (dig_cons_digs HD1.out) (LI.own HW3.out) (by omega)).mono ?_
      rw [digs_cons, sgn_false]
      rintro e w4 ⟨neg4, A4, n4, c4, rfl, ⟨hs4, hn4, hl4⟩, hb4⟩
      clear hs4
      rw [Int.natAbs_natCast] at hn4 hl4
      obtain ⟨x1, hx1e⟩ : ∃ x1, x0 + 10000 * r = x1 := ⟨_, rfl⟩
      rw [hx1e] at hn4 hl4
      have HX1 := hJ hx1e
      have HN4 := hJ hn4
      have HL4 := hJ hl4
      have HB4 := hJ (HB3.out.trans (hb4.mono HB3.out.size))
      have HX1B := hJ (show x1 < 10000 * b by have := HD1.out; have := HRB.out; omega)
      clear hx1e hn4 hl4 hb4 HB3 HW3 HLR1 HLit
      go_wp2_with fail
      obtain ⟨w5, hw5⟩ : ∃ w5, w4.alloc (.cells #[.bool neg4, .slice A4 n4 c4] 24) = w5 := ⟨_, rfl⟩
      rw [hw5]
      have HB5 := hJ (show Below wr.heap.size wr w5 by rw [← hw5]; exact HB4.out.alloc HB4.out.size _)
      have HX5 := hJ (show w5.cell? ⟨w4.heap.size, 1, none⟩ = some (.slice A4 n4 c4) by rw [← hw5]; exact boxed_new _ _ _ _)
      have HX5L := hJ (show w4.heap.size < w5.heap.size by rw [← hw5]; simp)
      have HL5 := hJ (show LI .i64 w5 (.slice A4 n4 c4) (digs 10000 x1) by rw [← hw5]; exact HL4.out.alloc _)
      have HLY5 := hJ ((HLY.out.new HBBw.out).new HB5.out)
      have hn4 : n4 ≤ n' + 1 := by
        rw [← HN4.out]
        refine digs_len_le (by decide) ?_
        have h1 := HX1B.out
        have h2 := HLTB.out
        rw [HNY.out] at h2
        have h3 : 10000 * b ≤ 10000 ^ (n' + 1) := by rw [Nat.pow_succ, Nat.mul_comm]; exact Nat.mul_le_mul_right 10000 (Nat.le_of_lt h2)
        omega
      clear hw5 HL4
      go_loopw [10, 11] (fun lo hi wi => ∃ l h : Nat, l ≤ h ∧ h ≤ 9999 ∧ lo = .int .i64 l ∧ hi = .int .i64 h ∧ l * b ≤ x1 ∧ x1 < (h + 1) * b ∧ Below w5.heap.size w5 wi) (fun lo hi _ => (intOf hi - intOf lo).toNat)
      case atStart => exact ⟨0, 9999, by omega, by omega, rfl, rfl, by omega, by have := HX1B.out; omega, Below.refl _ _⟩
      case round =>
        obtain ⟨l, h, hlh, hh, rfl, rfl, hlo, hhi, hbi⟩ := hrel
        have HLO := hJ hlo
        have HHI := hJ hhi
        have HBI := hJ hbi
        clear hlo hhi hbi
        by_cases hlt : l < h
        · obtain ⟨m, hm⟩ : ∃ m : Nat, ((l : Int) + (h : Int) + 1) / 2 = (m : Int) := ⟨(l + h + 1) / 2, by omega⟩
          have hm1 : l < m := by omega
          have hm2 : m ≤ h := by omega
          have HM := hJ (small_any b m A' n' c' _ (HLY5.out.new HBI.out) (by omega) (by omega))
          obtain ⟨v, hv⟩ : ∃ v, cmpN (b * m) x1 = v := ⟨_, rfl⟩
          have HV := hJ hv
          clear hv
          have HN6 := hJ (show (digs 10000 (b * m)).length ≤ n' + 1 by
            refine digs_len_le (by decide) ?_
            have h2 := HLTB.out
            rw [HNY.out] at h2
            exact mul_lt_pow (n := 1) h2 (by omega))
          by_cases hle : b * m ≤ x1
          · have hv0 : v ≤ 0 := by rw [← HV.out]; unfold cmpN; split <;> (try split) <;> omega
            have HLE := hJ hle
            clear hle
            go_wp2_with fail
            refine HM.out.mono ?_
            rintro e w6 ⟨A6, n6, c6, rfl, hl6, hn6, hb6⟩
            have hn6' : n6 ≤ n' + 1 := by
              rw [← hn6]
              exact HN6.out
            have HL6 := hJ hl6
            have HB6 := hJ (HBI.out.trans (hb6.mono HBI.out.size))
            clear hl6 hn6 hb6
            go_wp2_with fail
            refine (compared_any (b * m) x1 A6 A4 n6 n4 c6 c4 w6 HL6.out (HL5.out.new HB6.out) (by omega) (by omega)).mono ?_
            rw [HV.out]
            rintro e w7 ⟨rfl, hb7⟩
            have HB7 := hJ (HB6.out.trans (hb7.mono HB6.out.size))
            clear hb7
            go_wp2
            go_roundw
            case rel => exact ⟨m, h, by omega, by omega, rfl, rfl, by have := HLE.out; rw [Nat.mul_comm]; exact this, HHI.out, HB7.out⟩
            case measure => simp [intOf]; omega
          · have hv0 : ¬ v ≤ 0 := by rw [← HV.out, cmpN, if_neg (by omega), if_pos (by omega)]; decide
            have HLE := hJ hle
            clear hle
            go_wp2_with fail
            refine HM.out.mono ?_
            rintro e w6 ⟨A6, n6, c6, rfl, hl6, hn6, hb6⟩
            have hn6' : n6 ≤ n' + 1 := by
              rw [← hn6]
              exact HN6.out
            have HL6 := hJ hl6
            have HB6 := hJ (HBI.out.trans (hb6.mono HBI.out.size))
            clear hl6 hn6 hb6
            go_wp2_with fail
            refine (compared_any (b * m) x1 A6 A4 n6 n4 c6 c4 w6 HL6.out (HL5.out.new HB6.out) (by omega) (by omega)).mono ?_
            rw [HV.out]
            rintro e w7 ⟨rfl, hb7⟩
            have HB7 := hJ (HB6.out.trans (hb7.mono HB6.out.size))
            clear hb7
            go_wp2
            go_roundw
            case rel => exact ⟨l, m - 1, by omega, by omega, rfl, congrArg _ (by omega), HLO.out, by have := HLE.out; rw [show m - 1 + 1 = m by omega, Nat.mul_comm]; omega, HB7.out⟩
            case measure => simp [intOf]; omega
        · obtain rfl : l = h := by omega
          obtain ⟨hq1, hr1⟩ := half_done HLO.out HHI.out
          have HQ1 := hJ hq1
          have HR1 := hJ hr1
          clear hq1 hr1 hlt hlh
          have HM := hJ (small_any b l A' n' c' _ (HLY5.out.new HBI.out) (by omega) (by omega))
          have HN6 := hJ (show (digs 10000 (b * l)).length ≤ n' + 1 by
            refine digs_len_le (by decide) ?_
            have h2 := HLTB.out
            rw [HNY.out] at h2
            exact mul_lt_pow (n := 1) h2 (by omega))
          go_wp2_with fail
          refine HM.out.mono ?_
          rintro e w6 ⟨A6, n6, c6, rfl, hl6, hn6, hb6⟩
          have hn6' : n6 ≤ n' + 1 := by
            rw [← hn6]
            exact HN6.out
          have HL6 := hJ hl6
          have HB6 := hJ (HBI.out.trans (hb6.mono HBI.out.size))
          clear hl6 hn6 hb6
          go_wp2_with fail
          refine (minus_any _ _ A4 A6 n4 n6 c4 c6 w6 (dig_digs (by decide) x1) (dig_digs (by decide) (b * l)) (HL5.out.new HB6.out) HL6.out (by omega) (by omega) (by rw [val_digs (by decide), val_digs (by decide), Nat.mul_comm]; exact HLO.out)).mono ?_
          rw [val_digs (by decide), val_digs (by decide)]
          rintro e w7 ⟨A7, n7, c7, o7, rfl, hli7, hlo7, hd7, ⟨hv7, hlen7⟩, hb7⟩
          have HB7 := hJ (HB6.out.trans (hb7.mono HB6.out.size))
          have HL7 := hJ (hli7.mono (ok' := (w6.heap.size ≤ ·)) (fun _ _ h => h))
          have HD7 := hJ hd7
          have HV7 := hJ (show val 10000 o7 = x1 % b by rw [hv7, Nat.mul_comm]; exact HR1.out)
          have hn7 : n7 ≤ n' + 1 := by omega
          clear hli7 hlo7 hd7 hv7 hlen7 hb7
          go_wp2_with fail
          refine (normal_ok (w6.heap.size ≤ ·) false o7 A7 n7 c7 w7 HD7.out HL7.out (by omega)).mono ?_
          rw [HV7.out, sgn_false]
          rintro e w8 ⟨neg8, A8, n8, c8, rfl, ⟨hs8, hn8, hl8⟩, hb8⟩
          rw [Int.natAbs_natCast] at hn8 hl8
          have HB8 := hJ (HB7.out.trans (hb8.mono HB7.out.size))
          have HL8 := hJ hl8
          have HN8 := hJ hn8
          clear hs8 hn8 hl8 hb8
          have HBR8 := hJ (HB5.out.trans (HB8.out.mono HB5.out.size))
          obtain ⟨w9, hw9⟩ : ∃ w9, w8.alloc (.cells #[.bool neg8, .slice A8 n8 c8] 24) = w9 := ⟨_, rfl⟩
          have HBR9 := hJ (show Below _ _ w9 by rw [← hw9]; exact HBR8.out.alloc HBR8.out.size _)
          have HBK9 := hJ (HBK.out.new HBR9.out)
          have HX9 := hJ (show w9.cell? ⟨w8.heap.size, 1, none⟩ = some (.slice A8 n8 c8) by rw [← hw9]; exact boxed_new _ _ _ _)
          have HG9 := hJ (show G < w8.heap.size from Nat.lt_of_lt_of_le HBK.out.lt HBR8.out.size)
          have HL9 := hJ (show LO .i64 (G < ·) w9 (.slice A8 n8 c8) (digs 10000 (x1 % b)) by
            rw [← hw9]
            exact (HL8.out.mono (fun b _ hb => Nat.lt_of_lt_of_le (HBK.out.new (HB5.out.trans (HB6.out.mono HB5.out.size))).lt hb)).alloc _)
          have hcell := HBK9.out.cell (i := j) (by have := HQL.out; omega)
          have hfr := HBK9.out.frozen j
          have hne : ¬ (w8.heap.size = G) := by have := HG9.out; omega
          have hnext : (w9.setCell ⟨G, j, none⟩ (.int .i64 (l : Int))).cell? ⟨w8.heap.size, 1, none⟩ = some (.slice A8 n8 c8) := by
            rw [World.cell?_setCell_other _ _ _ _ (fun e => by injection e with e; have := HG9.out; omega)]
            exact HX9.out
          have HST := hJ (HBK9.out.set_ j l)
          go_wp2
          go_roundw
          case rel =>
            refine ⟨(j : Int) - 1, A8, n8, c8, x1 % b, oq.set j l, by omega, by omega, rfl, rfl, ?_, Nat.mod_lt _ hb, by rw [List.length_set]; exact HQL.out, dig_set HQD.out _ _ (by omega), ?_, HST.out, ?_⟩
            · exact (HL9.out.kp (t := (· = G)) ((Kp.refl (· = G) _).setCell (p := ⟨G, j, none⟩) (fun _ => rfl) _) (fun b _ h e => by omega)).weak
            · rw [show ((j : Int) - 1 + 1).toNat = j by omega, HVD.out, HVQ.out, val_drop (oq.set j l) j, List.drop_set_of_lt (by omega), set_getD_eq (by have := HQL.out; omega)]
              have e := div_step (D := val 10000 (oq.drop (j + 1)) * b + r) (x := x0) (t := l) rfl (by rw [HX1.out]; exact HLO.out)
              rw [e, HX1.out, HR1.out]
            · exact ((HBB.out.trans (HBR9.out.mono (Nat.le_of_lt HBK.out.lt)))).setCell (p := ⟨G, j, none⟩) (Nat.le_refl _) _
          case measure => simp [intOf]
    · obtain rfl : z = -1 := by omega
      go_wp2
      go_ret2
      have hv := HVL.out
      rw [show ((-1 : Int) + 1).toNat = 0 by omega, List.drop_zero, List.drop_zero, HVX.out] at hv
      have hq : x / b = val 10000 oq := by
        rw [hv, Nat.add_comm, Nat.add_mul_div_right _ _ hb, Nat.div_eq_of_lt HRB.out, Nat.zero_add]
      have hr : x % b = r := by
        rw [hv, Nat.add_comm, Nat.add_mul_mod_self_right, Nat.mod_eq_of_lt HRB.out]
      rw [hq, hr]
      exact ⟨_, _, _, _, _, _, oq, rfl, (HBK.out.li0 HQL.out (Nat.le_refl _)).weak, HQD.out, hn, rfl, HLR.out, HK2.out, by rw [HGG.out]; exact HBB.out⟩
end Go.Proofs.YtbhnaffbgggabaaGreat

namespace Go.Proofs.YtbhnaffbgggabaaGreat
open Go.RowKit
attribute [local go_sem ↓] Go.wp_at_zero Go.wp_at_succ

theorem results_cell2 {P : Program} {fn : Func} {p q : Tmp} {ty ty' : TypeId} (h : fn.results = #[.cell p ty, .cell q ty']) (tmps : Array Value) (w : World) (g g' : Nat) (t t' : TypeId) (cs cs' : Array Value) (fr fr' : Nat × Nat) (d d' : TypeDesc)
    (hp : tmps.getD p undef = .pointer (some ⟨g, 0, none⟩)) (hq : tmps.getD q undef = .pointer (some ⟨g', 0, none⟩)) (hg : w.heap[g]? = some (.cells cs t fr)) (hg' : w.heap[g']? = some (.cells cs' t' fr'))
    (hu : P.underlying ty = some d) (hd : (match d with | .struct _ | .array _ _ => true | _ => false) = true) (hi : (P.info? ty).map (·.size) = some cs.size)
    (hu' : P.underlying ty' = some d') (hd' : (match d' with | .struct _ | .array _ _ => true | _ => false) = true) (hi' : (P.info? ty').map (·.size) = some cs'.size) :
    (results fn tmps).run P w = .ok (.tuple #[.agg cs, .agg cs']) w := by
  have hp' : tmps[p]?.getD undef = .pointer (some ⟨g, 0, none⟩) := by simpa using hp
  have hq' : tmps[q]?.getD undef = .pointer (some ⟨g', 0, none⟩) := by simpa using hq
  simp [results, h, hp', hq', asAddr, run_loadVar_row w g t ty cs fr d hg hu hd hi, run_loadVar_row w g' t' ty' cs' fr' d' hg' hu' hd' hi']
/-- Four blocks: two boxes, and two results. -/
theorem W4_facts (t : TypeId) (w W : World) (a0 a1 b0 b1 z0 z1 : Value) (hW : (((w.alloc (.cells #[a0, a1] t)).alloc (.cells #[b0, b1] t)).alloc (.cells #[z0, z1] t)).alloc (.cells #[z0, z1] t) = W) :
    P2 t W w.heap.size a0 a1 ∧ P2 t W (w.heap.size + 1) b0 b1 ∧ P2 t W (w.heap.size + 1 + 1) z0 z1 ∧ P2 t W (w.heap.size + 1 + 1 + 1) z0 z1 ∧ Below w.heap.size w W ∧ W.heap.size = w.heap.size + 4 := by
  subst hW
  refine ⟨(W3_a t w a0 a1 b0 b1 z0 z1).alloc _, (W3_b t w a0 a1 b0 b1 z0 z1).alloc _, (W3_z t w a0 a1 b0 b1 z0 z1).alloc _, ?_, (W3_k t w a0 a1 b0 b1 z0 z1).alloc (W3_k t w a0 a1 b0 b1 z0 z1).size _, by simp⟩
  have := P2.lit (W3 t w a0 a1 b0 b1 z0 z1) t z0 z1
  rw [show (W3 t w a0 a1 b0 b1 z0 z1).heap.size = w.heap.size + 1 + 1 + 1 by simp [W3]] at this
  exact this
/-- What Div returns. -/
def RetN2 (x y : Int) (w : World) (e : Ending) (w' : World) : Prop := ∃ s A n c s' A' n' c', e = .returned (.tuple #[.agg #[.bool s, .slice A n c], .agg #[.bool s', .slice A' n' c']]) ∧ RN w' s A n c x ∧ RN w' s' A' n' c' y ∧ Below w.heap.size w w'
def WQ (w : World) (g g' : Nat) (a b c d : Value) : World := (((w.setCell ⟨g, 0, none⟩ a).setCell ⟨g, 1, none⟩ b).setCell ⟨g', 0, none⟩ c).setCell ⟨g', 1, none⟩ d
theorem two_stored {t : TypeId} {w0 w : World} {g g' : Nat} {z0 z1 : Value} {x y : Int} {s s' : Bool} {A A' : Option Addr} {n c n' c' : Nat} (hq : P2 t w g z0 z1) (hr : P2 t w g' z0 z1) (h0 : isI z0 = false) (h1 : isI z1 = false) (hne : g ≠ g') (hx : RN w s A n c x) (hy : RN w s' A' n' c' y) (hb : Below w0.heap.size w0 w) (hg : w0.heap.size ≤ g) (hg' : w0.heap.size ≤ g') :
    P2 t (WQ w g g' (.bool s) (.slice A n c) (.bool s') (.slice A' n' c')) g (.bool s) (.slice A n c) ∧ P2 t (WQ w g g' (.bool s) (.slice A n c) (.bool s') (.slice A' n' c')) g' (.bool s') (.slice A' n' c') ∧
    RetN2 x y w0 (.returned (.tuple #[.agg #[.bool s, .slice A n c], .agg #[.bool s', .slice A' n' c']])) (WQ w g g' (.bool s) (.slice A n c) (.bool s') (.slice A' n' c')) := by
  have hr' := hr.far2 (g := g) hne.symm (.bool s) (.slice A n c)
  exact ⟨(hq.all _ _).far2 hne _ _, hr'.all _ _, s, A, n, c, s', A', n', c', rfl, ⟨hx.1, hx.2.1, (hx.2.2.box hq h0 h1 _ _).box hr' h0 h1 _ _⟩, ⟨hy.1, hy.2.1, (hy.2.2.box hq h0 h1 _ _).box hr' h0 h1 _ _⟩, below_box (below_box hb hg _ _) hg' _ _⟩
theorem quo_sgn {x y : Int} {s s' : Bool} (hx : s = decide (x < 0)) (hy : s' = decide (y < 0)) (q0 : Nat) : sgn (s != s') q0 = (if (x < 0) ↔ (y < 0) then (q0 : Int) else -(q0 : Int)) := by
  subst hx hy
  unfold sgn
  by_cases h1 : x < 0 <;> by_cases h2 : y < 0 <;> simp [h1, h2]
theorem div_a {x y : Int} {s s' : Bool} (hx : s = decide (x < 0)) (hy : s' = decide (y < 0)) (hy0 : y ≠ 0) (h : s = false ∨ x.natAbs % y.natAbs = 0) : sgn (s != s') (x.natAbs / y.natAbs) = x / y ∧ ((x.natAbs % y.natAbs : Nat) : Int) = x % y := by
  have hm := Nat.div_add_mod x.natAbs y.natAbs
  obtain ⟨h1, h2⟩ := div_of x y (x.natAbs / y.natAbs) (x.natAbs % y.natAbs) (by rw [Nat.mul_comm]; exact hm.symm) (Nat.mod_lt _ (by omega))
  have hn : ¬ (x < 0 ∧ x.natAbs % y.natAbs ≠ 0) := by
    rintro ⟨g1, g2⟩
    rcases h with h | h
    · rw [hx] at h; simp at h; omega
    · exact g2 h
  rw [if_neg hn] at h1 h2
  rw [quo_sgn hx hy, h1, h2, Int.add_zero]
  exact ⟨rfl, rfl⟩
theorem div_b {x y : Int} {s s' : Bool} (hx : s = decide (x < 0)) (hy : s' = decide (y < 0)) (hy0 : y ≠ 0) (hs : s = true) (h : x.natAbs % y.natAbs ≠ 0) : sgn (s != s') (x.natAbs / y.natAbs) + sgn (s != s') 1 = x / y ∧ ((y.natAbs - x.natAbs % y.natAbs : Nat) : Int) = x % y := by
  have hm := Nat.div_add_mod x.natAbs y.natAbs
  have hlt := Nat.mod_lt x.natAbs (show 0 < y.natAbs by omega)
  obtain ⟨h1, h2⟩ := div_of x y (x.natAbs / y.natAbs) (x.natAbs % y.natAbs) (by rw [Nat.mul_comm]; exact hm.symm) hlt
  have hx0 : x < 0 := by rw [hx] at hs; simpa using hs
  rw [if_pos ⟨hx0, h⟩] at h2
  rw [quo_sgn hx hy, quo_sgn hx hy, h1, h2]
  constructor
  · by_cases h3 : y < 0 <;> simp [hx0, h3, h]
  · omega

set_option maxRecDepth 100000 in
set_option maxHeartbeats 3200000 in
theorem div_any (x y : Int) (s s' : Bool) (A A' : Option Addr) (n c n' c' : Nat) (w : World) (hx : RN w s A n c x) (hy : RN w s' A' n' c' y) (hn : n ≤ 150000) (hn' : n' ≤ 150000) (hy0 : y ≠ 0) :
    Calls Tryz.prog 106 #[.agg #[.bool s, .slice A n c], .agg #[.bool s', .slice A' n' c']] w (RetN2 (x / y) (x % y) w) := by
  have HSX := hJ hx.1
  have HSY := hJ hy.1
  have HNX := hJ hx.2.1
  have HNY := hJ hy.2.1
  have HLX := hJ hx.2.2
  have HLY := hJ hy.2.2
  have HY0 := hJ (show 0 < y.natAbs by omega)
  have HYY := hJ hy0
  clear hx hy hy0
  obtain ⟨W, hW⟩ : ∃ W, (((w.alloc (.cells #[.bool s, .slice A n c] 24)).alloc (.cells #[.bool s', .slice A' n' c'] 24)).alloc (.cells #[.bool false, .slice none 0 0] 24)).alloc (.cells #[.bool false, .slice none 0 0] 24) = W := ⟨_, rfl⟩
  obtain ⟨fa, fb, fq, fr, fk, fs⟩ := W4_facts _ _ _ _ _ _ _ _ _ hW
  have HA := hJ fa
  have HB := hJ fb
  have HQ := hJ fq
  have HR := hJ fr
  have HK := hJ fk
  obtain ⟨ca0, ca1⟩ := fa.cells
  obtain ⟨cb0, cb1⟩ := fb.cells
  clear fa fb fq fr fk fs
  go_enter Tryz.func106, Tryz.ntmps106
  go_wp2_with fail
  refine (divided_any x.natAbs y.natAbs A A' n n' c c' W HY0.out (HLX.out.new HK.out) (HLY.out.new HK.out) (by omega) (by omega)).mono ?_
  rintro e w1 ⟨A1, n1, c1, A2, n2, c2, o, rfl, hl1, hd1, hlen1, hv1, hl2, hlen2, hb1⟩
  have HL1 := hJ hl1
  have HD1 := hJ hd1
  have HV1 := hJ hv1
  have HL2 := hJ hl2
  have HN2 := hJ hlen2
  have HB1 := hJ hb1
  have hn1 : n1 ≤ 1000000 := by omega
  have hn2 : n2 ≤ n' := by
    rw [← hlen2, ← HNY.out]
    exact digs_len_mono (by decide) (Nat.le_of_lt (Nat.mod_lt _ HY0.out))
  obtain ⟨ca0, ca1⟩ := (HA.out.new hb1).cells
  obtain ⟨cb0, cb1⟩ := (HB.out.new hb1).cells
  clear hl1 hd1 hlen1 hv1 hl2 hlen2 hb1
  go_wp2_with fail
  refine (normal_any (s != s') o A1 n1 c1 w1 HD1.out HL1.out hn1).mono ?_
  rw [HV1.out]
  rintro e w2 ⟨s2, A3, n3, c3, rfl, hr2, hb2⟩
  obtain ⟨w3, hw3⟩ : ∃ w3, w2.alloc (.cells #[.bool s2, .slice A3 n3 c3] 24) = w3 := ⟨_, rfl⟩
  have HB3 := hJ (show Below W.heap.size W w3 by rw [← hw3]; exact (HB1.out.trans (hb2.mono HB1.out.size)).alloc (HB1.out.trans (hb2.mono HB1.out.size)).size _)
  have HB13 := hJ (show Below w1.heap.size w1 w3 by rw [← hw3]; exact hb2.alloc hb2.size _)
  have HP8 := hJ (show P2 24 w3 w2.heap.size (.bool s2) (.slice A3 n3 c3) by rw [← hw3]; exact P2.lit _ _ _ _)
  have HR8 := hJ (show RN w3 s2 A3 n3 c3 (sgn (s != s') (x.natAbs / y.natAbs)) by rw [← hw3]; exact hr2.new ((Below.refl _ _).alloc (Nat.le_refl _) _))
  have h78 : W.heap.size ≤ w2.heap.size := Nat.le_trans HB1.out.size hb2.size
  have hws : w.heap.size + 1 + 1 + 1 < W.heap.size := HR.out.lt
  clear hr2 hb2
  go_wp2_with fail
  refine (normal_any false _ A2 n2 c2 w3 (dig_digs (by decide) (x.natAbs % y.natAbs)) (HL2.out.new HB13.out) (by omega)).mono ?_
  rw [val_digs (by decide), sgn_false]
  rintro e w4 ⟨s4, A4, n4, c4, rfl, hr4, hb4⟩
  obtain ⟨w5, hw5⟩ : ∃ w5, w4.alloc (.cells #[.bool s4, .slice A4 n4 c4] 24) = w5 := ⟨_, rfl⟩
  have HB35 := hJ (show Below w3.heap.size w3 w5 by rw [← hw5]; exact hb4.alloc hb4.size _)
  have HP9 := hJ (show P2 24 w5 w4.heap.size (.bool s4) (.slice A4 n4 c4) by rw [← hw5]; exact P2.lit _ _ _ _)
  have HR9 := hJ (show RN w5 s4 A4 n4 c4 ((x.natAbs % y.natAbs : Nat) : Int) by rw [← hw5]; exact hr4.new ((Below.refl _ _).alloc (Nat.le_refl _) _))
  have HB5 := hJ (HB3.out.trans (HB35.out.mono HB3.out.size))
  have HP8' := hJ (HP8.out.new HB35.out)
  have h89 : w2.heap.size < w4.heap.size := Nat.lt_of_lt_of_le HP8.out.lt hb4.size
  clear hr4 hb4 hw3
  obtain ⟨ca0, ca1⟩ := (HA.out.new HB5.out).cells
  obtain ⟨cb0, cb1⟩ := (HB.out.new HB5.out).cells
  obtain ⟨c80, c81⟩ := HP8'.out.cells
  obtain ⟨c90, c91⟩ := HP9.out.cells
  have HZQ := hJ (HQ.out.new HB5.out)
  have HZR := hJ (HR.out.new HB5.out)
  obtain ⟨q0, q1⟩ := HZQ.out.cells
  obtain ⟨r0, r1⟩ := HZR.out.cells
  have fq0 := HZQ.out.frozen 0
  have fq1 := HZQ.out.frozen 1
  have fr0 := HZR.out.frozen 0
  have fr1 := HZR.out.frozen 1
  by_cases hcase : s = true ∧ 0 < n4
  · obtain ⟨rfl, hn40⟩ := hcase
    have HDV := hJ (div_b HSX.out HSY.out HYY.out rfl (by
      have := HR9.out.2.1
      rw [Int.natAbs_natCast] at this
      intro h0
      rw [h0, digs_zero, List.length_nil] at this
      omega))
    have e1 : w.heap.size + 1 + 1 ≠ w2.heap.size := by omega
    have e2 : w.heap.size + 1 + 1 ≠ w4.heap.size := by omega
    have e3 : w.heap.size + 1 + 1 + 1 ≠ w2.heap.size := by omega
    have e4 : w.heap.size + 1 + 1 + 1 ≠ w4.heap.size := by omega
    have e5 : w2.heap.size ≠ w4.heap.size := by omega
    have HLit := hJ (LI.own (l := [1]) (own_lit .i64 w5 3 [1]))
    go_wp2_with fail
    refine (normal_any (!s') [1] _ 1 1 (w5.alloc (.cells #[.int .i64 1] 3)) (dig_cons.2 ⟨by decide, dig_nil⟩) HLit.out (by decide)).mono ?_
    rw [val_one, show (!s') = (true != s') by cases s' <;> rfl]
    rintro e w6 ⟨s6, A6, n6, c6, rfl, hr6, hb6⟩
    obtain ⟨w7, hw7⟩ : ∃ w7, w6.alloc (.cells #[.bool s6, .slice A6 n6 c6] 24) = w7 := ⟨_, rfl⟩
    have HB57 := hJ (show Below w5.heap.size w5 w7 by
      rw [← hw7]
      have h1 := ((Below.refl w5.heap.size w5).alloc (Nat.le_refl _) (.cells #[.int .i64 1] 3)).trans (hb6.mono (by simp))
      exact h1.alloc h1.size _)
    have HP10 := hJ (show P2 24 w7 w6.heap.size (.bool s6) (.slice A6 n6 c6) by rw [← hw7]; exact P2.lit _ _ _ _)
    have HR10 := hJ (show RN w7 s6 A6 n6 c6 (sgn (true != s') 1) by rw [← hw7]; exact hr6.new ((Below.refl _ _).alloc (Nat.le_refl _) _))
    have hn6 : n6 ≤ 1 := by
      have := hr6.2.1
      rw [sgn_abs] at this
      rw [← this]
      exact digs_len_le (by decide) (by decide)
    have HS6 := hJ (show w5.heap.size ≤ w6.heap.size by have := hb6.size; simp at this; omega)
    clear hr6 hb6
    have HP8'' := hJ (HP8'.out.new HB57.out)
    obtain ⟨c80, c81⟩ := HP8''.out.cells
    obtain ⟨c100, c101⟩ := HP10.out.cells
    have hn4 : n4 ≤ n' := by
      have := HR9.out.2.1
      rw [Int.natAbs_natCast, HN2.out] at this
      omega
    have hn3 : n3 ≤ n := by
      have := HR8.out.2.1
      rw [sgn_abs] at this
      rw [← this, ← HNX.out]
      exact digs_len_mono (by decide) (Nat.div_le_self _ _)
    have hsz6 : w4.heap.size < w6.heap.size := by
      have h1 := HP9.out.lt
      have h2 := HS6.out
      omega
    go_wp2_with fail
    refine (add_any _ _ s2 s6 A3 A6 n3 c3 n6 c6 w7 ((HR8.out.new HB35.out).new HB57.out) HR10.out (by omega) (by omega)).mono ?_
    rw [HDV.out.1]
    rintro e w8 ⟨s8, A8, n8, c8, rfl, hr8, hb8⟩
    have HB58 := hJ (HB57.out.trans (hb8.mono HB57.out.size))
    have HP8a := hJ (HP8''.out.new hb8)
    have HRQ := hJ hr8
    clear hr8 hb8
    obtain ⟨g80, g81⟩ := HP8a.out.cells
    have gf0 := HP8a.out.frozen 0
    have gf1 := HP8a.out.frozen 1
    obtain ⟨w9, hw9⟩ : ∃ w9, (w8.setCell ⟨w2.heap.size, 0, none⟩ (.bool s8)).setCell ⟨w2.heap.size, 1, none⟩ (.slice A8 n8 c8) = w9 := ⟨_, rfl⟩
    have HP8b := hJ (show P2 24 w9 w2.heap.size (.bool s8) (.slice A8 n8 c8) by rw [← hw9]; exact HP8a.out.all _ _)
    have HRQ9 := hJ (show RN w9 s8 A8 n8 c8 (x / y) by rw [← hw9]; exact ⟨HRQ.out.1, HRQ.out.2.1, HRQ.out.2.2.box HP8a.out rfl rfl _ _⟩)
    have HL49 := hJ (show LI .i64 w9 (.slice A4 n4 c4) (digs 10000 (x.natAbs % y.natAbs)) by
      rw [← hw9]
      have := (HR9.out.2.2.new HB58.out).box HP8a.out rfl rfl (.bool s8) (.slice A8 n8 c8)
      rwa [Int.natAbs_natCast] at this)
    have HLY9 := hJ (show LI .i64 w9 (.slice A' n' c') (digs 10000 y.natAbs) by
      rw [← hw9]
      exact (((HLY.out.new HK.out).new HB5.out).new HB58.out).box HP8a.out rfl rfl (.bool s8) (.slice A8 n8 c8))
    have HB9 := hJ (show P2 24 w9 (w.heap.size + 1) (.bool s') (.slice A' n' c') by rw [← hw9]; exact ((HB.out.new HB5.out).new HB58.out).far2 (by omega) _ _)
    have HP9b := hJ (show P2 24 w9 w4.heap.size (.bool s4) (.slice A4 n4 c4) by rw [← hw9]; exact (HP9.out.new HB58.out).far2 (by omega) _ _)
    have HZQ9 := hJ (show P2 24 w9 (w.heap.size + 1 + 1) (.bool false) (.slice none 0 0) by rw [← hw9]; exact (HZQ.out.new HB58.out).far2 (by omega) _ _)
    have HZR9 := hJ (show P2 24 w9 (w.heap.size + 1 + 1 + 1) (.bool false) (.slice none 0 0) by rw [← hw9]; exact (HZR.out.new HB58.out).far2 (by omega) _ _)
    have HBW9 := hJ (show Below w.heap.size w w9 by
      rw [← hw9]
      have h1 := HK.out.trans (HB5.out.mono HK.out.size)
      exact below_box (h1.trans (HB58.out.mono h1.size)) (by omega) _ _)
    obtain ⟨cb90, cb91⟩ := HB9.out.cells
    obtain ⟨c990, c991⟩ := HP9b.out.cells
    go_wp2_with fail
    refine (minus_any _ _ A' A4 n' n4 c' c4 w9 (dig_digs (by decide) y.natAbs) (dig_digs (by decide) (x.natAbs % y.natAbs)) HLY9.out HL49.out (by omega) (by omega) (by rw [val_digs (by decide), val_digs (by decide)]; exact Nat.le_of_lt (Nat.mod_lt _ HY0.out))).mono ?_
    rw [val_digs (by decide), val_digs (by decide)]
    rintro e w10 ⟨A10, n10, c10, o10, rfl, hli10, hlo10, hd10, ⟨hv10, hlen10⟩, hb10⟩
    have HV10 := hJ hv10
    have HB10 := hJ hb10
    have hn10 : n10 ≤ 150000 := by omega
    have HL10 := hJ hli10.weak
    have HD10 := hJ hd10
    clear hli10 hlo10 hd10 hv10 hlen10 hb10 hw9
    go_wp2_with fail
    refine (normal_any false o10 A10 n10 c10 w10 HD10.out HL10.out (by omega)).mono ?_
    rw [HV10.out, sgn_false, HDV.out.2]
    rintro e w11 ⟨s11, A11, n11, c11, rfl, hr11, hb11⟩
    have HB11 := hJ (HB10.out.trans (hb11.mono HB10.out.size))
    have HP9c := hJ (HP9b.out.new HB11.out)
    have HRR := hJ hr11
    obtain ⟨g90, g91⟩ := HP9c.out.cells
    have gf90 := HP9c.out.frozen 0
    have gf91 := HP9c.out.frozen 1
    clear hr11 hb11
    obtain ⟨w12, hw12⟩ : ∃ w12, (w11.setCell ⟨w4.heap.size, 0, none⟩ (.bool s11)).setCell ⟨w4.heap.size, 1, none⟩ (.slice A11 n11 c11) = w12 := ⟨_, rfl⟩
    have HP9d := hJ (show P2 24 w12 w4.heap.size (.bool s11) (.slice A11 n11 c11) by rw [← hw12]; exact HP9c.out.all _ _)
    have HP8d := hJ (show P2 24 w12 w2.heap.size (.bool s8) (.slice A8 n8 c8) by rw [← hw12]; exact (HP8b.out.new HB11.out).far2 (by omega) _ _)
    have HZQ12 := hJ (show P2 24 w12 (w.heap.size + 1 + 1) (.bool false) (.slice none 0 0) by rw [← hw12]; exact (HZQ9.out.new HB11.out).far2 (by omega) _ _)
    have HZR12 := hJ (show P2 24 w12 (w.heap.size + 1 + 1 + 1) (.bool false) (.slice none 0 0) by rw [← hw12]; exact (HZR9.out.new HB11.out).far2 (by omega) _ _)
    have HRQ12 := hJ (show RN w12 s8 A8 n8 c8 (x / y) by rw [← hw12]; exact ⟨HRQ9.out.1, HRQ9.out.2.1, (HRQ9.out.2.2.new HB11.out).box HP9c.out rfl rfl _ _⟩)
    have HRR12 := hJ (show RN w12 s11 A11 n11 c11 (x % y) by rw [← hw12]; exact ⟨HRR.out.1, HRR.out.2.1, HRR.out.2.2.box HP9c.out rfl rfl _ _⟩)
    have HBW12 := hJ (show Below w.heap.size w w12 by
      rw [← hw12]
      exact below_box (HBW9.out.trans (HB11.out.mono HBW9.out.size)) (by omega) _ _)
    have HFIN := hJ (two_stored (w := w12.drew) HZQ12.out HZR12.out rfl rfl (by omega) HRQ12.out HRR12.out HBW12.out.drew (by omega) (by omega))
    obtain ⟨i80, i81⟩ := HP8d.out.cells
    obtain ⟨i90, i91⟩ := HP9d.out.cells
    obtain ⟨q0, q1⟩ := HZQ12.out.cells
    obtain ⟨r0, r1⟩ := HZR12.out.cells
    have fq0 := HZQ12.out.frozen 0
    have fq1 := HZQ12.out.frozen 1
    have fr0 := HZR12.out.frozen 0
    have fr1 := HZR12.out.frozen 1
    go_wp2_with fail
    go_region
    go_wp2
    exact bodyPost_ret (results_cell2 rfl _ _ _ _ _ _ _ _ _ _ _ _ rfl rfl HFIN.out.1 HFIN.out.2.1 Tryz.underlying24 rfl N_size Tryz.underlying24 rfl N_size) rfl HFIN.out.2.2
  · have HDV := hJ (div_a HSX.out HSY.out HYY.out (by
      have := HR9.out.2.1
      rw [Int.natAbs_natCast] at this
      cases s
      · exact .inl rfl
      · have h0 : n4 = 0 := by
          rcases Nat.eq_zero_or_pos n4 with h | h
          · exact h
          · exact absurd ⟨rfl, h⟩ hcase
        rw [h0] at this
        exact .inr ((digs_nil (by decide)).1 (List.eq_nil_of_length_eq_zero this))))
    have e1 : w.heap.size + 1 + 1 ≠ w2.heap.size := by omega
    have e2 : w.heap.size + 1 + 1 ≠ w4.heap.size := by omega
    have e3 : w.heap.size + 1 + 1 + 1 ≠ w2.heap.size := by omega
    have e4 : w.heap.size + 1 + 1 + 1 ≠ w4.heap.size := by omega
    have e5 : w2.heap.size ≠ w4.heap.size := by omega
    have HFIN := hJ (two_stored (w := w5.drew) HZQ.out HZR.out rfl rfl (by omega) ((HR8.out.new HB35.out).eq HDV.out.1) (HR9.out.eq HDV.out.2) (HK.out.trans (HB5.out.mono HK.out.size)).drew (by omega) (by omega))
    cases s
    · clear hcase
      go_wp2_with fail
      go_region
      go_wp2
      exact bodyPost_ret (results_cell2 rfl _ _ _ _ _ _ _ _ _ _ _ _ rfl rfl HFIN.out.1 HFIN.out.2.1 Tryz.underlying24 rfl N_size Tryz.underlying24 rfl N_size) rfl HFIN.out.2.2
    · have hn40 : ¬ 0 < n4 := fun h => hcase ⟨rfl, h⟩
      clear hcase
      go_wp2_with fail
      go_region
      go_wp2
      exact bodyPost_ret (results_cell2 rfl _ _ _ _ _ _ _ _ _ _ _ _ rfl rfl HFIN.out.1 HFIN.out.2.1 Tryz.underlying24 rfl N_size Tryz.underlying24 rfl N_size) rfl HFIN.out.2.2
end Go.Proofs.YtbhnaffbgggabaaGreat

