/- Contracts of the reference: decimal texts. -/
import Derived.Test.YtpcliampffeknaaNPl
namespace Go.Proofs.Ytpcliampffeknaa
open Go.RowKit
attribute [local go_sem ↓] Go.wp_at_zero Go.wp_at_succ
attribute [local go_sem] str_get

/-- A text, empty for zero. -/
def decz (v : Nat) : List UInt8 := if v = 0 then [] else dec v
theorem decz_step {v : Nat} (h : 0 < v) (T : List UInt8) : decz (v / 10) ++ (dig8 (v % 10) :: T) = decz v ++ T := by
  unfold decz
  rw [if_neg (show ¬ v = 0 by omega)]
  by_cases h10 : v < 10
  · rw [if_pos (by omega), dec_lt h10, show v % 10 = v by omega]; rfl
  · rw [if_neg (by omega), dec_ge (n := v) (by omega), List.append_assoc]; rfl
theorem digits_cut : ∀ d, d < 10 → (ByteArray.mk #[48, 49, 50, 51, 52, 53, 54, 55, 56, 57]).extract d (d + 1) = ⟨[dig8 d].toArray⟩ := by decide +kernel
theorem str_app (a b : List UInt8) : ByteArray.mk a.toArray ++ ByteArray.mk b.toArray = ⟨(a ++ b).toArray⟩ := by
  apply ByteArray.ext
  simp
set_option maxRecDepth 100000 in
set_option maxHeartbeats 1600000 in
theorem decimal_any (m : Nat) (w : World) (hm : m < 10000) :
    Calls Try.prog 42 #[.int .i64 (m : Int)] w (RetStr (dec m) w) := by
  rcases Nat.eq_zero_or_pos m with h0 | h0
  · subst h0
    rw [show dec 0 = [48] from dec_lt (by decide)]
    go_enter Try.func42, Try.ntmps42
    go_wp2
    go_ret
    exact ⟨rfl, Below.refl _ _⟩
  · have hm0 : ((m : Int) == 0) = false := beq_eq_false_iff_ne.2 (by omega)
    have hmn : ¬ (m : Int) < 0 := by omega
    have HD := Lib.hid (show decz m = dec m from if_neg (by omega))
    go_enter Try.func42, Try.ntmps42
    go_wp2
    go_loopw [4, 5] (fun v k wr => ∃ (q : Nat) (T : List UInt8), v = .string ⟨T.toArray⟩ ∧ k = .int .i64 (q : Int) ∧ q ≤ m ∧ decz q ++ T = decz m ∧ T.length + q ≤ 20000 ∧ Below w.heap.size w wr) (fun _ k _ => (intOf k).toNat)
    case atStart => exact ⟨m, [], rfl, rfl, Nat.le_refl _, by simp, by simp; omega, Below.refl _ _⟩
    case round =>
      obtain ⟨q, T, rfl, rfl, hq, hT, hlen, hb⟩ := hrel
      have HT := Lib.hid hT
      have HB := Lib.hid hb
      clear hT hb
      rcases Nat.eq_zero_or_pos q with h1 | h1
      · subst h1
        have HE := Lib.hid (show dec m = T by rw [← HD.out, ← HT.out]; rfl)
        go_wp2
        go_ret
        exact ⟨by rw [HE.out]; rfl, HB.out⟩
      · have HN := Lib.hid (decz_step h1 T)
        obtain ⟨z, hz⟩ : ∃ z : Int, (q : Int) = z := ⟨_, rfl⟩
        rw [hz]
        have hz1 : 0 < z := by omega
        have hz2 : z < 10000 := by omega
        have HZ := Lib.hid hz
        clear hz
        go_wp2
        go_round
        · refine ⟨q / 10, dig8 (q % 10) :: T, ?_, by have := HZ.out; exact congrArg _ (by omega), by omega, HN.out.trans HT.out, by rw [List.length_cons]; omega, HB.out⟩
          have := HZ.out
          rw [show (z % 10).toNat = q % 10 by omega, show (z % 10 + 1).toNat = q % 10 + 1 by omega, digits_cut _ (Nat.mod_lt _ (by decide)), str_app]
          rfl
        · simp [intOf]; omega
def strLen : Value → Nat
  | .string s => s.data.size
  | _ => 0
theorem pad4_len (r : Nat) : (pad4 r).length = 4 := rfl
/-- Zeros laid in front. -/
def Pad (d : Nat) (S : List UInt8) : Prop := S.length ≤ 4 ∧ ∃ k, S = List.replicate k (dig8 0) ++ dec d
theorem Pad.start {d : Nat} (h : d < 10000) : Pad d (dec d) := ⟨(dec_len (by decide)).2 h, 0, rfl⟩
theorem Pad.next {d : Nat} {S : List UInt8} (h : Pad d S) (hl : S.length < 4) : Pad d (48 :: S) := by
  obtain ⟨_, k, rfl⟩ := h
  exact ⟨by rw [List.length_cons]; omega, k + 1, rfl⟩
theorem Pad.done {d : Nat} {S : List UInt8} (h : Pad d S) (hd : d < 10000) (hl : ¬ S.length < 4) : S = pad4 d := by
  obtain ⟨h4, k, rfl⟩ := h
  rw [← pad4_dec hd]
  rw [List.length_append, List.length_replicate] at hl h4
  rw [show 4 - (dec d).length = k by omega]
set_option maxRecDepth 100000 in
set_option maxHeartbeats 3200000 in
theorem text_any (x : Int) (s : Bool) (A : Option Addr) (n c : Nat) (w : World) (hx : RN w s A n c x) (hn : n ≤ 150000) :
    Calls Try.prog 10 #[.agg #[.bool s, .slice A n c]] w (RetStr (decI x) w) := by
  obtain ⟨W, hW⟩ : ∃ W, w.alloc (.cells #[.bool s, .slice A n c] 25) = W := ⟨_, rfl⟩
  have HK := Lib.hid (show Below w.heap.size w W by rw [← hW]; exact (Below.refl _ w).alloc (Nat.le_refl _) _)
  have HP := Lib.hid (show P2 25 W w.heap.size (.bool s) (.slice A n c) by rw [← hW]; exact P2.lit _ _ _ _)
  have HSX := Lib.hid hx.1
  have HNX := Lib.hid hx.2.1
  have HLX := Lib.hid (hx.2.2.new HK.out)
  have HDX := Lib.hid (dig_digs (B := 10000) (by decide) x.natAbs)
  have HVX := Lib.hid (val_digs (B := 10000) (by decide) x.natAbs)
  have HLAST := Lib.hid (fun h : x.natAbs ≠ 0 => digs_last (B := 10000) (by decide) h)
  have HI := Lib.hid (show decI x = if s = true then 45 :: dec x.natAbs else dec x.natAbs by rw [decI, hx.1]; simp)
  have HNIL := Lib.hid (digs_nil (B := 10000) (n := x.natAbs) (by decide))
  obtain ⟨l, hl⟩ : ∃ l, digs 10000 x.natAbs = l := ⟨_, rfl⟩
  rw [hl] at HNX HLX HDX HVX HLAST HNIL
  obtain ⟨p0, p1⟩ := HP.out.cells
  clear hx hl
  rcases Nat.eq_zero_or_pos n with h0 | h0
  · subst h0
    have HX0 := Lib.hid (HNIL.out.1 (List.eq_nil_of_length_eq_zero HNX.out))
    have HS : s = false := by
      have := HSX.out
      rw [this]
      exact decide_eq_false (by have := HX0.out; omega)
    subst HS
    have HE := Lib.hid (show decI x = [48] by rw [HI.out, HX0.out]; exact dec_lt (by decide))
    rw [HE.out]
    go_enter Try.func10, Try.ntmps10
    go_wp2_with fail
    go_ret
    exact ⟨rfl, HK.out⟩
  · have HX0 := Lib.hid (show x.natAbs ≠ 0 by
      intro h
      have h1 := HNIL.out.2 h
      have h2 := HNX.out
      rw [h1, List.length_nil] at h2
      omega)
    have hn0 : ((n : Int) == 0) = false := beq_eq_false_iff_ne.2 (by omega)
    obtain ⟨m, rfl⟩ : ∃ m, n = m + 1 := ⟨n - 1, by omega⟩
    obtain ⟨b, off, rfl, hb, hc⟩ := HLX.out.at_ (j := m) (by omega)
    have hdm := dig_getD (B := 10000) (by decide) HDX.out m
    have HTOP := Lib.hid (show l.getD m 0 ≠ 0 by have := HLAST.out HX0.out; rwa [HNX.out] at this)
    obtain ⟨d, hd⟩ : ∃ d, l.getD m 0 = d := ⟨_, rfl⟩
    rw [hd] at hc hdm HTOP
    have HD := Lib.hid hd
    clear hd
    go_enter Try.func10, Try.ntmps10
    go_wp2_with fail
    refine (decimal_any d W hdm).mono ?_
    rintro e w1 ⟨rfl, hb1⟩
    have HB1 := Lib.hid hb1
    obtain ⟨p10, p11⟩ := (HP.out.new hb1).cells
    clear hb1 p0 p1 hc hW
    have HT1 := Lib.hid (show (dec d).length ≤ 4 from (dec_len (by decide)).2 hdm)
    go_wp2_with fail
    go_loopw [3, 4] (fun v i wr => ∃ (z : Int) (T : List UInt8), v = .string ⟨T.toArray⟩ ∧ i = .int .i64 z ∧ -1 ≤ z ∧ z < (m : Int) ∧ T = dec (val 10000 (l.drop (z + 1).toNat)) ∧ 0 < val 10000 (l.drop (z + 1).toNat) ∧ (T.length : Int) + 4 * z ≤ 4 * m ∧ Below W.heap.size W wr) (fun _ i _ => (intOf i + 1).toNat)
    case atStart =>
      have e : val 10000 (l.drop m) = d := by
        rw [val_drop, HD.out, List.drop_of_length_le (by rw [HNX.out]; omega)]
        simp [val]
      refine ⟨(m : Int) - 1, dec d, rfl, by go_num, by omega, by omega, ?_, ?_, by have := HT1.out; omega, HB1.out⟩
      · rw [show ((m : Int) - 1 + 1).toNat = m by omega, e]
      · rw [show ((m : Int) - 1 + 1).toNat = m by omega, e]
        have := HTOP.out
        omega
    case round =>
      obtain ⟨z, T, rfl, rfl, hz1, hz2, hT, hpos, hlen, hbel⟩ := hrel
      have HT := Lib.hid hT
      have HPOS := Lib.hid hpos
      have HLEN := Lib.hid hlen
      have HB := Lib.hid hbel
      have hTl : T.length ≤ 4 * m + 4 := by omega
      obtain ⟨p20, p21⟩ := (HP.out.new hbel).cells
      clear hT hpos hlen hbel p10 p11
      by_cases hz : 0 ≤ z
      · obtain ⟨j, rfl⟩ : ∃ j : Nat, z = (j : Int) := ⟨z.toNat, by omega⟩
        obtain ⟨b', off', he, hb', hc'⟩ := (HLX.out.new HB.out).at_ (j := j) (by omega)
        injection he with he
        injection he with he1 he2
        subst he1 he2
        have hdj := dig_getD (B := 10000) (by decide) HDX.out j
        obtain ⟨y, hy⟩ : ∃ y, l.getD j 0 = y := ⟨_, rfl⟩
        rw [hy] at hc' hdj
        have HYD := Lib.hid hy
        clear hy
        go_wp2_with fail
        refine (decimal_any y wr hdj).mono ?_
        rintro e w3 ⟨rfl, hb3⟩
        have HB3 := Lib.hid (HB.out.trans (hb3.mono HB.out.size))
        clear hb3 p20 p21 hc'
        go_wp2_with fail
        go_loopw [5] (fun v wr => ∃ S : List UInt8, v = .string ⟨S.toArray⟩ ∧ Pad y S ∧ Below W.heap.size W wr) (fun v _ => 4 - strLen v)
        case atStart => exact ⟨dec y, rfl, Pad.start hdj, HB3.out⟩
        case round =>
          obtain ⟨S, rfl, hp, hb5⟩ := hrel
          have HPD := Lib.hid hp
          have HB5 := Lib.hid hb5
          have hS4 := hp.1
          clear hp hb5
          by_cases hs : (S.length : Int) < 4
          · have HN := Lib.hid (HPD.out.next (by omega))
            go_wp2
            go_round
            · exact ⟨48 :: S, by rw [show (#[48] : Array UInt8) = [48].toArray from rfl, str_app]; rfl, HN.out, HB5.out⟩
            · simp [strLen]; omega
          · have HF := Lib.hid (HPD.out.done hdj (by omega))
            have HTE := Lib.hid (show T ++ pad4 y = dec (val 10000 (l.drop j)) ∧ 0 < val 10000 (l.drop j) by
              have h1 := HT.out
              have h2 := HPOS.out
              rw [show ((j : Int) + 1).toNat = j + 1 by omega] at h1 h2
              rw [val_drop, HYD.out]
              refine ⟨?_, by omega⟩
              rw [h1, dec_step h2 hdj])
            go_wp2
            go_roundw
            case rel => exact ⟨(j : Int) - 1, T ++ S, by rw [str_app], by go_num, by omega, by omega, by rw [show ((j : Int) - 1 + 1).toNat = j by omega, HF.out]; exact HTE.out.1, by rw [show ((j : Int) - 1 + 1).toNat = j by omega]; exact HTE.out.2, by have := HLEN.out; rw [List.length_append]; omega, HB5.out⟩
            case measure => simp [intOf]
      · obtain rfl : z = -1 := by omega
        have HTE := Lib.hid (show T = dec x.natAbs by rw [HT.out, ← HVX.out]; rfl)
        cases s
        · have HE := Lib.hid (show decI x = T by rw [HI.out, HTE.out]; rfl)
          go_wp2
          go_ret
          exact ⟨by rw [HE.out]; rfl, HK.out.trans (HB.out.mono HK.out.size)⟩
        · have HE := Lib.hid (show decI x = [45] ++ T by rw [HI.out, HTE.out]; rfl)
          go_wp2
          go_ret
          exact ⟨by rw [HE.out, ← str_app]; rfl, HK.out.trans (HB.out.mono HK.out.size)⟩
end Go.Proofs.Ytpcliampffeknaa
