/- Contracts of the reference's encodings: Uint, Zigzag, Back, Int, Bool, Raw, Ints: each returns the encoding in new memory. -/
import Derived.Test.YtgcgifjfgmhhmaaWWr
namespace Go.Proofs.Ytgcgifjfgmhhmaa
open Go.RowKit

theorem own_snoc {W : World} {base k : Nat} {v : Value} {pre : List UInt8} {x : UInt8} {y : Int} (hk : pre.length = k) (h : W.ownsRow base 5 1 v (k + 1) (vs .u8 (bI pre) ++ [.int .u8 y])) (hy : y = (x.toNat : Int)) :
    W.ownsRow base 5 1 v (pre ++ [x]).length (vs .u8 (bI (pre ++ [x]))) := by
  subst hk hy
  rw [List.length_append, bI_append, vs_append]
  exact h
theorem own_new (k : IntKind) (w : World) (t : TypeId) (xs : List Int) (h : xs.length ≤ maxLen := by decide) : (w.alloc (.cells (vs k xs).toArray t)).ownsRow w.heap.size t 1 (.slice (some ⟨w.heap.size, 0, none⟩) xs.length xs.length) xs.length (vs k xs) :=
  ⟨by rw [vs_length, Nat.mul_one], .inr ⟨w.heap.size, xs.length, _, rfl, Nat.le_refl _, heap_alloc_new w _, Nat.le_refl _, h, by simp [vs], by rw [Nat.mul_one]; exact List.take_of_length_le (by simp [vs])⟩⟩
theorem ret_i {k : IntKind} {a b : Int} (h : a = b) : Ending.returned (.int k a) = .returned (.int k b) := by rw [h]

set_option maxHeartbeats 800000 in
theorem ruv_any (n : Nat) (w : World) (hn : n < 18446744073709551616) :
    Calls Try.prog 40 #[.int .u64 n] w (Fresh .u8 5 (bI (uv n)) w) := by
  obtain ⟨i0, hi0, hz0, hz1, hz2⟩ := info_parts byte_info
  have HL := Lib.hid (uv_len10 hn)
  have HN := Lib.hid hn
  clear hn
  go_enter Try.func40, Try.ntmps40
  go_wp2
  go_loopw [0, 3] (fun i v wr => ∃ (m : Nat) (pre : List UInt8), m ≤ n ∧ i = .int .u64 (m : Int) ∧ pre ++ uv m = uv n ∧ wr.ownsRow w.heap.size 5 1 v pre.length (vs .u8 (bI pre)) ∧ Below w.heap.size w wr) (fun i _ _ => (intOf i).toNat)
  case atStart => exact ⟨n, [], Nat.le_refl _, rfl, rfl, World.ownsRow_nil _ _ _ _, Below.refl _ _⟩
  case round =>
    obtain ⟨m, pre, hm, rfl, hpre, hown, hb⟩ := hrel
    have HP := Lib.hid hpre
    have hpl : pre.length ≤ 10 := by
      have := HL.out
      rw [← HP.out, List.length_append] at this
      omega
    obtain ⟨k, hk⟩ : ∃ k, pre.length = k := ⟨_, rfl⟩
    rw [hk] at hown hpl
    have HK := Lib.hid hk
    obtain ⟨z, hz⟩ : ∃ z : Int, (m : Int) = z := ⟨_, rfl⟩
    have hzl : 0 ≤ z := by omega
    have hzr : z < 18446744073709551616 := by have := HN.out; omega
    rw [hz]
    have HZ := Lib.hid hz
    have HM := Lib.hid hm
    have HO2 := Lib.hid (show k + 1 ≤ maxLen by unfold maxLen; omega)
    have HO3 := Lib.hid (show (k + 1) * 1 ≤ 140737488355328 by omega)
    have HO4 := Lib.hid hb.size
    by_cases h128 : 127 < z
    · clear hk hpre hz hm
      go_wp2_with (at_builtin; refine wpList_append_own _ rfl _ _ 24 rfl w.heap.size 5 i0 (.int .u8 0) 1 1 Try.underlying24 hi0 hz0 hz1 hz2 rfl (by decide) _ _ _ rfl (hown.alloc _) ⟨wr.heap.size, 0, none⟩ 1 1 [_] rfl rfl (cell_one_new _ _ _) (one_cells _ _) HO2.out HO3.out (alloc_ge HO4.out) ?_; intro v' w1 hown' hgrow _)
      have hb2 : Below w.heap.size w w1 := (hb.alloc HO4.out _).grown hgrow (alloc_ge HO4.out) (own_block_ge hown)
      clear hgrow
      go_roundw
      case rel =>
        refine ⟨m / 128, pre ++ [UInt8.ofNat (m % 128 + 128)], ?_, ?_, ?_, ?_, hb2⟩
        · have := HM.out; omega
        · have := HZ.out; exact congrArg _ (by omega)
        · rw [List.append_assoc, List.singleton_append, ← uv_ge (by have := HZ.out; omega)]; exact HP.out
        · exact own_snoc HK.out hown' (by rw [u8nat _ (by omega)]; have := HZ.out; omega)
      case measure => simp [intOf]; omega
    · clear hk hpre hz hm
      go_wp2_with (at_builtin; refine wpList_append_own _ rfl _ _ 24 rfl w.heap.size 5 i0 (.int .u8 0) 1 1 Try.underlying24 hi0 hz0 hz1 hz2 rfl (by decide) _ _ _ rfl (hown.alloc _) ⟨wr.heap.size, 0, none⟩ 1 1 [_] rfl rfl (cell_one_new _ _ _) (one_cells _ _) HO2.out HO3.out (alloc_ge HO4.out) ?_; intro v' w1 hown' hgrow _)
      have hb2 : Below w.heap.size w w1 := (hb.alloc HO4.out _).grown hgrow (alloc_ge HO4.out) (own_block_ge hown)
      obtain ⟨g', cap', rfl⟩ := ownsRow_succ hown'
      go_ret
      have hl := own_snoc (x := UInt8.ofNat m) HK.out hown' (by rw [u8nat _ (by have := HZ.out; omega)]; have := HZ.out; omega)
      rw [← uv_lt (by have := HZ.out; omega), HP.out] at hl
      have hkl : (bI (uv n)).length = k + 1 := by rw [bI_len, ← HP.out, uv_lt (by have := HZ.out; omega), List.length_append, HK.out]; rfl
      exact ⟨some ⟨g', 0, none⟩, cap', by rw [hkl]; rfl, by rw [hkl]; rw [show (uv n).length = k + 1 by rw [← bI_len]; exact hkl] at hl; exact hl, hb2⟩
theorem zz_any (n : Int) (w : World) (hn : ok64 n) :
    Calls Try.prog 58 #[.int .i64 n] w fun e w' => e = .returned (.int .u64 (zz n)) ∧ w = w' := by
  obtain ⟨h1, h2⟩ := hn
  by_cases h : n < 0
  · go_enter Try.func58, Try.ntmps58
    go_wp2
    go_ret
    exact ⟨ret_i (by unfold zz; rw [if_neg (by omega)]; omega), rfl⟩
  · go_enter Try.func58, Try.ntmps58
    go_wp2
    go_ret
    exact ⟨ret_i (by unfold zz; rw [if_pos (by omega)]; omega), rfl⟩
theorem back_any (z : Nat) (w : World) (hz : z < 18446744073709551616) :
    Calls Try.prog 61 #[.int .u64 z] w fun e w' => e = .returned (.int .i64 (back z)) ∧ w = w' := by
  obtain ⟨y, hy⟩ : ∃ y : Int, (z : Int) = y := ⟨_, rfl⟩
  have h1 : 0 ≤ y := by omega
  have h2 : y < 18446744073709551616 := by omega
  have HY := Lib.hid hy
  rw [hy]
  clear hz hy
  by_cases h : y % 2 = 1
  · go_enter Try.func61, Try.ntmps61
    go_wp2
    go_ret
    exact ⟨ret_i (by have := HY.out; unfold back; rw [if_pos (by omega)]; omega), rfl⟩
  · have hne : (y % 2 == 1) = false := beq_eq_false_iff_ne.2 h
    go_enter Try.func61, Try.ntmps61
    go_wp2
    go_ret
    exact ⟨ret_i (by have := HY.out; unfold back; rw [if_neg (by omega)]; omega), rfl⟩
theorem rint_any (n : Int) (w : World) (hn : ok64 n) :
    Calls Try.prog 41 #[.int .i64 n] w (Fresh .u8 5 (bI (uv (zz n))) w) := by
  go_enter Try.func41, Try.ntmps41
  go_wp2_with fail
  refine (zz_any n w hn).mono ?_
  rintro e w' ⟨rfl, rfl⟩
  go_wp2_with fail
  refine (ruv_any (zz n) w (zz_lt hn.1 hn.2)).mono ?_
  rintro e w' ⟨a, c, rfl, hown, hb⟩
  go_wp2
  go_ret
  exact ⟨a, c, rfl, hown, hb⟩
theorem rbool_any (b : Bool) (w : World) :
    Calls Try.prog 42 #[.bool b] w (Fresh .u8 5 (bI [if b then 1 else 0]) w) := by
  cases b
  · go_enter Try.func42, Try.ntmps42
    go_wp2
    go_ret
    exact ⟨some ⟨w.heap.size, 0, none⟩, 1, rfl, own_new .u8 w _ [0], (Below.refl _ w).alloc (Nat.le_refl _) _⟩
  · go_enter Try.func42, Try.ntmps42
    go_wp2
    go_ret
    exact ⟨some ⟨w.heap.size, 0, none⟩, 1, rfl, own_new .u8 w _ [1], (Below.refl _ w).alloc (Nat.le_refl _) _⟩
set_option maxHeartbeats 800000 in
theorem rraw_any (l : List UInt8) (A : Option Addr) (m c : Nat) (ok : Nat → Prop) (w : World) (hm : l.length = m) (hml : m ≤ 1000) (hr : In .u8 w ok (.slice A m c) (bI l)) :
    Calls Try.prog 43 #[.slice A m c] w (Fresh .u8 5 (bI (uv l.length ++ l)) w) := by
  obtain ⟨i0, hi0, hz0, hz1, hz2⟩ := info_parts byte_info
  have HU := Lib.hid (uv_len10 (n := m) (by omega))
  have HM := Lib.hid hm
  have HR := Lib.hid hr
  clear hm hr
  go_enter Try.func43, Try.ntmps43
  go_wp2_with fail
  refine (ruv_any m w (by omega)).mono ?_
  rintro e w1 ⟨a, c1, rfl, hown, hb⟩
  obtain ⟨k, hk⟩ : ∃ k, (bI (uv m)).length = k := ⟨_, rfl⟩
  rw [hk] at hown ⊢
  have hkl : k ≤ 10 := by rw [← hk, bI_len]; exact HU.out
  have HK := Lib.hid hk
  have HR1 := Lib.hid (HR.out.new hb)
  have HO2 := Lib.hid (show k + m ≤ maxLen by unfold maxLen; omega)
  have HO3 := Lib.hid (show (k + m) * 1 ≤ 140737488355328 by omega)
  have HO4 := Lib.hid hb.size
  clear hk
  go_wp2_with (at_builtin; refine wpList_append_in rfl _ _ 24 rfl w.heap.size 5 i0 (.int .u8 0) 1 Try.underlying24 hi0 hz0 hz1 hz2 rfl _ _ _ rfl hown .u8 _ _ _ _ _ rfl HR1.out HO2.out HO3.out HO4.out ?_; intro v' w2 hown' hgrow; obtain ⟨a3, c3, rfl⟩ := own_form hown')
  go_ret
  have hlen : (bI (uv l.length ++ l)).length = k + m := by rw [HM.out, bI_append, List.length_append, HK.out, bI_len, HM.out]
  refine ⟨a3, c3, by rw [hlen]; rfl, ?_, hb.grown hgrow HO4.out (own_block_ge hown)⟩
  rw [hlen, bI_append, vs_append, HM.out]
  exact hown'
set_option maxHeartbeats 800000 in
theorem rints_any (l : List Int) (A : Option Addr) (m c : Nat) (ok : Nat → Prop) (w : World) (hm : l.length = m) (hml : m ≤ 1000) (ho : ∀ n ∈ l, ok64 n) (hr : In .i64 w ok (.slice A m c) l) :
    Calls Try.prog 44 #[.slice A m c] w (Fresh .u8 5 (bI (uv l.length ++ ofInts l)) w) := by
  obtain ⟨i0, hi0, hz0, hz1, hz2⟩ := info_parts byte_info
  have HU := Lib.hid (uv_len10 (n := m) (by omega))
  have HM := Lib.hid hm
  have HR := Lib.hid hr
  have HO := Lib.hid ho
  clear hm hr ho
  go_enter Try.func44, Try.ntmps44
  go_wp2_with fail
  refine (ruv_any m w (by omega)).mono ?_
  rintro e w1 ⟨a, c1, rfl, hown, hb⟩
  have HW := Lib.hid hown
  clear hown
  go_wp2_with fail
  go_loopw [3, 4] (fun v i wr => ∃ j : Nat, j ≤ m ∧ i = .int .i64 j ∧ wr.ownsRow w.heap.size 5 1 v (uv m ++ ofInts (l.take j)).length (vs .u8 (bI (uv m ++ ofInts (l.take j)))) ∧ (ofInts (l.take j)).length ≤ 10 * j ∧ Below w.heap.size w wr) (fun _ i _ => m - (intOf i).toNat)
  case atStart => exact ⟨0, Nat.zero_le _, rfl, by have := HW.out; rw [bI_len] at this; simpa [ofInts, bI_len] using this, by simp [ofInts], hb⟩
  case round =>
    obtain ⟨j, hj, rfl, hw, hlen, hb2⟩ := hrel
    obtain ⟨k, hk⟩ : ∃ k, (uv m ++ ofInts (l.take j)).length = k := ⟨_, rfl⟩
    rw [hk] at hw
    have hkl : k ≤ 10 + 10 * j := by rw [← hk, List.length_append]; have := HU.out; omega
    have HK := Lib.hid hk
    have HLN := Lib.hid hlen
    clear hlen hk
    by_cases hlt : j < m
    · have hjl : j < l.length := by rw [HM.out]; exact hlt
      obtain ⟨b, off, rfl, hbg, hbs, hcell⟩ := (HR.out.new hb2).at_ (j := j) hjl
      have hg1 := HO.out l[j] (List.getElem_mem _)
      have HS := Lib.hid (show ofInts (l.take (j + 1)) = ofInts (l.take j) ++ uv (zz (l.getD j 0)) by
        rw [List.take_succ_eq_append_getElem hjl, ofInts_snoc, List.getD_eq_getElem?_getD, List.getElem?_eq_getElem hjl]; rfl)
      have he : l.getD j 0 = l[j] := by rw [List.getD_eq_getElem?_getD, List.getElem?_eq_getElem hjl]; rfl
      rw [← he] at hg1
      have HZ := Lib.hid (uv_len10 (zz_lt hg1.1 hg1.2))
      have HG1 := Lib.hid hg1
      clear he hg1
      generalize l.getD j 0 = x at hcell HS HZ HG1
      go_wp2_with fail
      refine (rint_any x _ HG1.out).mono ?_
      rintro e w3 ⟨a4, c4, rfl, hown4, hb3⟩
      have hown5 := own_below hw hb3
      have HI := Lib.hid (In.own hown4)
      obtain ⟨q, hq⟩ : ∃ q, (bI (uv (zz x))).length = q := ⟨_, rfl⟩
      rw [hq] at HI ⊢
      have hql : q ≤ 10 := by rw [← hq, bI_len]; exact HZ.out
      have HQ := Lib.hid hq
      have hb4 := hb2.trans (hb3.mono hb2.size)
      have HO2 := Lib.hid (show k + q ≤ maxLen by unfold maxLen; omega)
      have HO3 := Lib.hid (show (k + q) * 1 ≤ 140737488355328 by omega)
      have HO4 := Lib.hid hb4.size
      clear hq hown4 hw
      go_wp2_with (at_builtin; refine wpList_append_in rfl _ _ 24 rfl w.heap.size 5 i0 (.int .u8 0) 1 Try.underlying24 hi0 hz0 hz1 hz2 rfl _ _ _ rfl hown5 .u8 _ _ _ _ _ rfl HI.out HO2.out HO3.out HO4.out ?_; intro v' w2 hown' hgrow)
      have hb5 := hb4.grown hgrow HO4.out (own_block_ge hown5)
      clear hgrow
      go_roundw
      case rel =>
        have hl2 : (uv m ++ ofInts (l.take (j + 1))).length = k + q := by rw [HS.out, ← List.append_assoc, List.length_append, HK.out, ← HQ.out, bI_len]
        refine ⟨j + 1, by omega, by go_num, ?_, by rw [HS.out, List.length_append]; have := HLN.out; have := HZ.out; omega, hb5⟩
        rw [hl2, HS.out, ← List.append_assoc, bI_append, vs_append]
        exact hown'
      case measure => simp [intOf]; omega
    · have he : l.take j = l := List.take_of_length_le (by rw [HM.out]; omega)
      rw [he] at HK hw
      obtain ⟨a5, c5, rfl⟩ := own_form hw
      have HE := Lib.hid he
      clear he
      go_wp2
      go_ret
      have hl2 : (bI (uv l.length ++ ofInts l)).length = k := by rw [bI_len, HM.out]; exact HK.out
      refine ⟨a5, c5, by rw [hl2]; rfl, ?_, hb2⟩
      rw [hl2, HM.out]
      exact hw
end Go.Proofs.Ytgcgifjfgmhhmaa
