/- Contracts of the reference's digits: the normal form, sums, differences. -/
import Derived.Test.YtpcliampffeknaaNR1
namespace Go.Proofs.Ytpcliampffeknaa
open Go.RowKit

def lenOf : Value → Nat
  | .slice _ n _ => n
  | _ => 0
/-- A reference's integer: a sign, and the digits of the absolute value, in a block of the kind ok. -/
def RNo (ok : Nat → Prop) (w : World) (neg : Bool) (A : Option Addr) (n c : Nat) (x : Int) : Prop := (neg = decide (x < 0)) ∧ (digs 10000 x.natAbs).length = n ∧ LO .i64 ok w (.slice A n c) (digs 10000 x.natAbs)
abbrev RN (w : World) (neg : Bool) (A : Option Addr) (n c : Nat) (x : Int) : Prop := RNo (fun _ => True) w neg A n c x
theorem RNo.new {ok : Nat → Prop} {w w' : World} {neg : Bool} {A : Option Addr} {n c : Nat} {x : Int} (h : RNo ok w neg A n c x) (hb : Below w.heap.size w w') : RNo ok w' neg A n c x := ⟨h.1, h.2.1, h.2.2.new hb⟩
theorem RNo.weak {ok : Nat → Prop} {w : World} {neg : Bool} {A : Option Addr} {n c : Nat} {x : Int} (h : RNo ok w neg A n c x) : RN w neg A n c x := ⟨h.1, h.2.1, h.2.2.weak⟩
/-- What a function returns that returns such an integer. -/
def RetNo (ok : Nat → Prop) (x : Int) (w : World) (e : Ending) (w' : World) : Prop := ∃ neg A n c, e = .returned (.agg #[.bool neg, .slice A n c]) ∧ RNo ok w' neg A n c x ∧ Below w.heap.size w w'
abbrev RetN (x : Int) (w : World) (e : Ending) (w' : World) : Prop := RetNo (fun _ => True) x w e w'
def sgn (neg : Bool) (v : Nat) : Int := if neg = true then -(v : Int) else (v : Int)
theorem sgn_abs (neg : Bool) (v : Nat) : (sgn neg v).natAbs = v := by unfold sgn; split <;> omega
theorem sgn_neg (neg : Bool) (v : Nat) : (neg && decide (0 < v)) = decide (sgn neg v < 0) := by
  unfold sgn
  cases neg
  · simp
  · by_cases h : 0 < v
    · simp [h]
    · simp [h]
theorem sgn_of (x : Int) : sgn (decide (x < 0)) x.natAbs = x := by
  unfold sgn
  by_cases h : x < 0
  · simp [h]; omega
  · simp [h]; omega

theorem normal_end {ok : Nat → Prop} {w w' : World} {neg b : Bool} {l : List Nat} {a : Option Addr} {k n c : Nat} (hn : l.take k = digs 10000 (val 10000 l)) (hl : LO .i64 ok w (.slice a k c) (l.take k)) (hb : Below w.heap.size w w')
    (hk : k ≤ n) (hn' : l.length = n) (hbb : b = (neg && decide (0 < k))) : RetNo ok (sgn neg (val 10000 l)) w (.returned (.agg #[.bool b, .slice a k c])) w' := by
  refine ⟨b, a, k, c, rfl, ⟨?_, ?_, ?_⟩, hb⟩
  · rw [← sgn_neg, hbb]
    have h0 := digs_nil (B := 10000) (n := val 10000 l) (by decide)
    rw [← hn] at h0
    have : (0 < k) ↔ (0 < val 10000 l) := by
      constructor
      · intro h
        rcases Nat.eq_zero_or_pos (val 10000 l) with e | e
        · have := congrArg List.length (h0.2 e)
          rw [List.length_take, List.length_nil] at this
          omega
        · exact e
      · intro h
        rcases Nat.eq_zero_or_pos k with rfl | e
        · have := h0.1 (by simp); omega
        · exact e
    simp only [this]
  · rw [sgn_abs, ← hn, List.length_take]; omega
  · rw [sgn_abs, ← hn]; exact hl.new hb
set_option maxHeartbeats 800000 in
theorem normal_ok (ok : Nat → Prop) (neg : Bool) (l : List Nat) (A : Option Addr) (n c : Nat) (w : World) (hd : Dig 10000 l) (hl : LO .i64 ok w (.slice A n c) l) (hn : n ≤ 1000000) :
    Calls Try.prog 50 #[.bool neg, .slice A n c] w (RetNo ok (sgn neg (val 10000 l)) w) := by
  have HL := Lib.hid hl
  have HD := Lib.hid hd
  have HN := Lib.hid hl.len.1
  have hb0 := fun o => (Below.refl w.heap.size w).alloc (Nat.le_refl _) o
  clear hl hd
  go_enter Try.func50, Try.ntmps50
  go_wp2_with fail
  have HB := Lib.hid hb0
  clear hb0
  cases neg
  all_goals
    go_loop [1] (fun v => ∃ (a : Option Addr) (k : Nat), k ≤ n ∧ v = .slice a k c ∧ LO .i64 ok w v (l.take k) ∧ ∃ j, l = l.take k ++ List.replicate j 0) (fun v => lenOf v)
    case atStart => exact ⟨A, n, Nat.le_refl _, rfl, by rw [List.take_of_length_le (by rw [HN.out]; exact Nat.le_refl _)]; exact HL.out, 0, by rw [List.take_of_length_le (by rw [HN.out]; exact Nat.le_refl _)]; simp⟩
    case round =>
      obtain ⟨a, k, hk, rfl, hli, hz⟩ := hrel
      have HLI := Lib.hid hli
      have HZ := Lib.hid hz
      have HV := Lib.hid (show val 10000 l = val 10000 (l.take k) by
        obtain ⟨j, hj⟩ := hz
        conv => lhs; rw [hj]
        rw [val_append, val_zeros]; omega)
      have HDT := Lib.hid (dig_take HD.out k)
      clear hli hz
      rcases Nat.eq_zero_or_pos k with rfl | hp
      · have HNM := Lib.hid (digs_of_zeros (B := 10000) (m := l.take 0) (by decide) HD.out HZ.out (norm_take (Nat.zero_le _) (.inl rfl)))
        go_wp2
        exact bodyPost_ret (v := .agg #[.bool false, .slice a 0 c]) (by simp [results, Try.results50, go_sem]) rfl (normal_end HNM.out HLI.out (HB.out _) (Nat.zero_le _) HN.out rfl)
      · obtain ⟨m, rfl⟩ : ∃ m, k = m + 1 := ⟨k - 1, by omega⟩
        obtain ⟨b, off, rfl, hb, hc⟩ := (HLI.out.new (HB.out (.cells #[.bool false, .slice none 0 0] 25))).at_ (j := m) (by omega)
        rw [getD_take' (Nat.lt_succ_self m)] at hc
        obtain ⟨x, hx⟩ : ∃ x, l.getD m 0 = x := ⟨_, rfl⟩
        rw [hx] at hc
        have HX := Lib.hid hx
        clear hx
        obtain ⟨z, hz⟩ : ∃ z : Int, (x : Int) = z := ⟨_, rfl⟩
        rw [hz] at hc
        have HZX := Lib.hid hz
        clear hz
        obtain ⟨a', hsl, hli'⟩ := HLI.out.to_ (P := Try.prog) (ty := 22) Try.underlying22 int_size m (by omega) _ rfl
        by_cases h0 : z = 0
        · subst h0
          have HZ' := Lib.hid (take_zeros (l := l) (k := m) (by have := HN.out; omega) (by have := HX.out; have := HZX.out; omega) HZ.out)
          have HLI' := Lib.hid hli'
          rw [List.take_take, Nat.min_eq_left (Nat.le_succ m)] at HLI'
          clear hli'
          go_wp2
          go_roundw
          case rel => exact ⟨a', m, by omega, rfl, HLI'.out, HZ'.out⟩
          case measure => simp [lenOf]
        · have hz0 : (z == 0) = false := beq_eq_false_iff_ne.2 h0
          have HNM := Lib.hid (digs_of_zeros (B := 10000) (m := l.take (m + 1)) (by decide) HD.out HZ.out (norm_take (by have := HN.out; omega) (.inr (by rw [Nat.add_sub_cancel]; have := HX.out; have := HZX.out; omega))))
          clear hli'
          go_wp2
          exact bodyPost_ret (v := .agg #[.bool _, .slice (some ⟨b, off, none⟩) (m + 1) c]) (by simp [results, Try.results50, go_sem]; rfl) rfl (normal_end HNM.out HLI.out (HB.out _) hk HN.out (by simp))

theorem normal_any (neg : Bool) (l : List Nat) (A : Option Addr) (n c : Nat) (w : World) (hd : Dig 10000 l) (hl : LI .i64 w (.slice A n c) l) (hn : n ≤ 1000000) :
    Calls Try.prog 50 #[.bool neg, .slice A n c] w (RetN (sgn neg (val 10000 l)) w) := normal_ok _ neg l A n c w hd hl hn

/-- What a function returns that returns digits in new memory. -/
def RetD (k : IntKind) (B : Nat) (P : List Nat → Prop) (w : World) (e : Ending) (w' : World) : Prop := ∃ A n c o, e = .returned (.slice A n c) ∧ LO k (w.heap.size ≤ ·) w' (.slice A n c) o ∧ o.length = n ∧ Dig B o ∧ P o ∧ Below w.heap.size w w'
set_option maxHeartbeats 1600000 in
theorem plus_any (la lb : List Nat) (A A' : Option Addr) (n n' c c' : Nat) (w : World) (hda : Dig 10000 la) (hdb : Dig 10000 lb) (ha : LI .i64 w (.slice A n c) la) (hb : LI .i64 w (.slice A' n' c') lb) (hn : n ≤ 900000) (hn' : n' ≤ 900000) :
    Calls Try.prog 57 #[.slice A n c, .slice A' n' c'] w (RetD .i64 10000 (fun o => val 10000 o = val 10000 la + val 10000 lb ∧ o.length ≤ max n n' + 1) w) := by
  obtain ⟨i0, hi0, hz0, hz1, hz2⟩ := info_parts int_info
  have HA := Lib.hid ha
  have HB := Lib.hid hb
  have HDA := Lib.hid hda
  have HDB := Lib.hid hdb
  have HN := Lib.hid ha.len.1
  have HN' := Lib.hid hb.len.1
  obtain ⟨M, hM⟩ : ∃ M, max n n' = M := ⟨_, rfl⟩
  have hM1 : n ≤ M := by omega
  have hM2 : n' ≤ M := by omega
  have hM3 : M ≤ 900000 := by omega
  rw [hM]
  clear ha hb hda hdb hM
  go_enter Try.func57, Try.ntmps57
  go_wp2
  go_loopw [5, 6, 7] (fun v y i wr => ∃ (k q : Nat) (o : List Nat), k ≤ M + 1 ∧ q ≤ 1 ∧ (M < k → q = 0) ∧ i = .int .i64 k ∧ y = .int .i64 q ∧ o.length = k ∧ Dig 10000 o ∧ val 10000 o + 10000 ^ k * q = val 10000 (la.take k) + val 10000 (lb.take k) ∧ wr.ownsRow w.heap.size 3 1 v k (vs .i64 (nI o)) ∧ Below w.heap.size w wr) (fun _ _ i _ => M + 1 - (intOf i).toNat)
  case atStart => exact ⟨0, 0, [], by omega, by omega, fun _ => rfl, rfl, rfl, rfl, dig_nil, by simp [val], World.ownsRow_nil _ _ _ _, Below.refl _ _⟩
  case round =>
    obtain ⟨k, q, o, hk, hq, hqk, rfl, rfl, ho, hdo, hv, hown, hbel⟩ := hrel
    have HO := Lib.hid ho
    have HDO := Lib.hid hdo
    have HV := Lib.hid hv
    have HW := Lib.hid hown
    have HBB := Lib.hid hbel
    have HQK := Lib.hid hqk
    clear ho hdo hv hown hbel hqk
    obtain ⟨z, hz⟩ : ∃ z : Int, (q : Int) = z := ⟨_, rfl⟩
    rw [hz]
    have HZ := Lib.hid hz
    have hzl : 0 ≤ z := by omega
    have hzr : z ≤ 1 := by omega
    clear hz
    by_cases hgo : k < n ∨ k < n' ∨ 0 < z
    · have hxl := dig_getD (B := 10000) (by decide) HDA.out k
      have hyl := dig_getD (B := 10000) (by decide) HDB.out k
      have HST := Lib.hid (plus_step (x := la.getD k 0) (y := lb.getD k 0) HO.out HV.out)
      rw [← val_take_succ, ← val_take_succ] at HST
      have HA1 := Lib.hid (at_any la A n c k wr (HA.out.new HBB.out) (by omega) (by omega))
      have HB1 := Lib.hid (at_any lb A' n' c' k wr (HB.out.new HBB.out) (by omega) (by omega))
      have HG := Lib.hid (show k = M → la.getD k 0 = 0 ∧ lb.getD k 0 = 0 from fun e => ⟨getD_out (by have := HN.out; omega), getD_out (by have := HN'.out; omega)⟩)
      have HKM := Lib.hid (show k ≤ M by
        rcases Nat.lt_or_ge M k with h | h
        · have := HQK.out h; have := HZ.out; omega
        · exact h)
      generalize la.getD k 0 = x at hxl HST HA1 HG
      generalize lb.getD k 0 = y at hyl HST HB1 HG
      obtain ⟨X, hX⟩ : ∃ X : Int, (x : Int) = X := ⟨_, rfl⟩
      obtain ⟨Y, hY⟩ : ∃ Y : Int, (y : Int) = Y := ⟨_, rfl⟩
      rw [hX] at HA1
      rw [hY] at HB1
      have hX1 : 0 ≤ X := by omega
      have hX2 : X < 10000 := by omega
      have hY1 : 0 ≤ Y := by omega
      have hY2 : Y < 10000 := by omega
      have HX := Lib.hid hX
      have HY := Lib.hid hY
      clear hX hY hxl hyl
      have HO2 := Lib.hid (show k + 1 ≤ maxLen by unfold maxLen; omega)
      have HO3 := Lib.hid (show (k + 1) * 8 ≤ 140737488355328 by omega)
      have HO4 := Lib.hid HBB.out.size
      have HW1 := fun o => Lib.hid (HW.out.alloc o)
      have key : ∀ (w1 : World) (v' : Value), w1.ownsRow w.heap.size 3 1 v' (k + 1) (vs .i64 (nI o) ++ [.int .i64 ((X + Y + z) % 10000)]) → Below w.heap.size w w1 →
          ∃ (k' q' : Nat) (o' : List Nat), k' ≤ M + 1 ∧ q' ≤ 1 ∧ (M < k' → q' = 0) ∧ Value.int .i64 ((k : Int) + 1) = .int .i64 k' ∧ Value.int .i64 ((X + Y + z) / 10000) = .int .i64 q' ∧ o'.length = k' ∧ Dig 10000 o' ∧ val 10000 o' + 10000 ^ k' * q' = val 10000 (la.take k') + val 10000 (lb.take k') ∧ w1.ownsRow w.heap.size 3 1 v' k' (vs .i64 (nI o')) ∧ Below w.heap.size w w1 := by
        intro w1 v' h1 h2
        have e1 := HX.out
        have e2 := HY.out
        have e3 := HZ.out
        refine ⟨k + 1, (x + y + q) / 10000, o ++ [(x + y + q) % 10000], by have := HKM.out; omega, by omega, fun h => ?_, by go_num, congrArg _ (by omega), by rw [List.length_append, HO.out]; rfl, dig_snoc HDO.out (by omega), HST.out, own_snocN HO.out h1 (by omega), h2⟩
        have := HKM.out
        obtain ⟨g1, g2⟩ := HG.out (by omega)
        omega
      have KEY := Lib.hid key
      clear key
      have hcase : k < n ∨ (¬ k < n ∧ k < n') ∨ (¬ k < n ∧ ¬ k < n' ∧ 0 < z) := by omega
      clear hgo
      rcases hcase with h | ⟨h, h'⟩ | ⟨h, h', h''⟩
      all_goals
        go_wp2_with fail
        refine HA1.out.mono ?_
        rintro e w' ⟨rfl, rfl⟩
        go_wp2_with fail
        refine HB1.out.mono ?_
        rintro e w' ⟨rfl, rfl⟩
        go_wp2_with (at_builtin; refine wpList_append_own _ rfl _ _ 22 rfl w.heap.size 3 i0 (.int .i64 0) 1 8 Try.underlying22 hi0 hz0 hz1 hz2 rfl (by decide) _ _ _ rfl (HW1 _).out ⟨wr.heap.size, 0, none⟩ 1 1 [_] rfl rfl (cell_one_new _ _ _) (one_cells _ _) HO2.out HO3.out (alloc_ge HO4.out) ?_; intro v' w1 hown' hgrow _)
        have HE := Lib.hid (KEY.out w1 v' hown' ((HBB.out.alloc HO4.out _).grown hgrow (alloc_ge HO4.out) (own_block_ge (HW1 (.cells #[] 0)).out)))
        clear hown' hgrow
        go_roundw
        case rel => exact HE.out
        case measure => have := HKM.out; simp [intOf]; omega
    · have hg1 : ¬ k < n := fun h => hgo (.inl h)
      have hg2 : ¬ k < n' := fun h => hgo (.inr (.inl h))
      have hg3 : ¬ 0 < z := fun h => hgo (.inr (.inr h))
      clear hgo
      obtain ⟨a5, c5, rfl⟩ := own_form HW.out
      go_wp2
      go_ret
      have e0 : q = 0 := by have := HZ.out; omega
      have e1 := HV.out
      rw [e0, val_take_all (by have := HN.out; omega), val_take_all (by have := HN'.out; omega)] at e1
      exact ⟨a5, k, c5, o, rfl, LO.own HW.out, HO.out, HDO.out, ⟨by omega, by have := HO.out; omega⟩, HBB.out⟩
end Go.Proofs.Ytpcliampffeknaa
