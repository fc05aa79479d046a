/- The walk of WireHash: the law returns true for every input; what lay lies as it lay. -/
import Derived.Test.YtgcgifjfgmhhmaaWLaw1
import Derived.Test.YtgcgifjfgmhhmaaHGrp
namespace Go.Proofs.Ytgcgifjfgmhhmaa
open Go.RowKit

theorem uv_inj {m n : Nat} (hm : m < 18446744073709551616) (hn : n < 18446744073709551616) (h : uv m = uv n) : m = n := by
  have h1 := uintS_rt hm []
  have h2 := uintS_rt hn []
  rw [h, h2] at h1
  simpa using h1.symm
theorem short_size (s : ByteArray) (m : Nat) : (s.extract 0 m).size ≤ m := by
  rw [ByteArray.size_extract]; omega
theorem hash_iff (s : List UInt8) (m n : Nat) (hm : m < 72057594037927936) (hn : n < 72057594037927936) (hl : (uv m).length = (uv n).length) :
    (toI (bytesS s (uv m)) == toI (bytesS s (uv n))) = ((m : Int) == (n : Int)) := by
  have h8 : (uv m).length ≤ 8 := uv_len m 7 (Nat.lt_of_lt_of_le hm (by decide))
  rw [bytesS_group s (uv m) (uv n) (j := 0) hl (by have := uv_pos m; omega) (fun i hi => by
    rw [List.getElem?_eq_none (by omega), List.getElem?_eq_none (by omega)])]
  by_cases e : m = n
  · rw [e]; simp
  · rw [(beq_eq_false_iff_ne.2 (fun h => e (by omega)) : ((m : Int) == (n : Int)) = false), decide_eq_false]
    intro h
    apply e
    apply uv_inj (by omega) (by omega)
    apply List.ext_getElem hl
    intro i h1 h2
    have := congrArg (·.getD i 0) h
    simp only [bI_get h1, bI_get h2] at this
    exact UInt8.toNat_inj.1 (by omega)

theorem shr_bd (u s : Nat) (h : u < 18446744073709551616) : u / 2 ^ (8 + s) < 72057594037927936 := by
  have h1 : u / 2 ^ (8 + s) ≤ u / 2 ^ 8 := Nat.div_le_div_left (Nat.pow_le_pow_right (by omega) (by omega)) (by decide)
  have e : (2 : Nat) ^ 8 = 256 := by decide
  omega
set_option maxHeartbeats 1600000 in
theorem wireHash_walk (u v : Nat) (sh : Int) (label : ByteArray) (w : World) (hu : u < 18446744073709551616) (hv : v < 18446744073709551616) (hs : (Lit.int .i64 sh).wf = true) (hlab : label.size ≤ maxLen) :
    Calls Try.prog 10 #[.int .u64 u, .int .u64 v, .int .i64 sh, .string label] w fun e w' => e = .returned (.bool true) ∧ Below w.heap.size w w' := by
  have HS := Lib.hid hs
  obtain ⟨z, hz⟩ : ∃ z : Int, (u : Int) = z := ⟨_, rfl⟩
  obtain ⟨y, hy⟩ : ∃ y : Int, (v : Int) = y := ⟨_, rfl⟩
  have HU := Lib.hid hu
  have HV := Lib.hid hv
  have HZ := Lib.hid hz
  have HY := Lib.hid hy
  have hzl : 0 ≤ z := by omega
  have hzr : z < 18446744073709551616 := by omega
  have hyl : 0 ≤ y := by omega
  have hyr : y < 18446744073709551616 := by omega
  rw [hz, hy]
  clear hu hv hs hz hy
  go_enter Try.func10, Try.ntmps10
  go_wp2_with fail
  refine (around_any sh 56 w (by omega) (by omega) HS.out).mono ?_
  rintro e w' ⟨rfl, rfl⟩
  have hk := aroundI_lt sh (n := 56) (by omega)
  generalize aroundI sh 56 = s at hk
  obtain ⟨M, hM⟩ : ∃ M, u / 2 ^ (8 + s) = M := ⟨_, rfl⟩
  obtain ⟨N, hN⟩ : ∃ N, v / 2 ^ (8 + s) = N := ⟨_, rfl⟩
  obtain ⟨qm, hqm⟩ : ∃ q : Int, z / 2 ^ (8 + s) = q := ⟨_, rfl⟩
  obtain ⟨qn, hqn⟩ : ∃ q : Int, y / 2 ^ (8 + s) = q := ⟨_, rfl⟩
  have hM2 : (M : Int) = qm := by rw [← hqm, ← hM, ← HZ.out]; push_cast; rfl
  have hN2 : (N : Int) = qn := by rw [← hqn, ← hN, ← HY.out]; push_cast; rfl
  have HMB := Lib.hid (show M < 72057594037927936 by rw [← hM]; exact shr_bd u s HU.out)
  have HNB := Lib.hid (show N < 72057594037927936 by rw [← hN]; exact shr_bd v s HV.out)
  have hml : 0 ≤ qm := by omega
  have hmr : qm < 18446744073709551616 := by have := HMB.out; omega
  have hnl : 0 ≤ qn := by omega
  have hnr : qn < 18446744073709551616 := by have := HNB.out; omega
  have HM2 := Lib.hid hM2
  have HN2 := Lib.hid hN2
  have HL8 := Lib.hid (show (uv M).length ≤ 8 from uv_len M 7 (Nat.lt_of_lt_of_le HMB.out (by decide)))
  have HLN := Lib.hid (show (uv N).length ≤ 8 from uv_len N 7 (Nat.lt_of_lt_of_le HNB.out (by decide)))
  clear hM hN hM2 hN2
  go_wp2_with fail
  rw [hqm, hqn, ← HM2.out]
  clear hqm hqn
  refine (wuint_any M w.heap.size [] _ (by have := HMB.out; omega) (Wr.zero w) (by decide)).mono ?_
  rintro e w1 ⟨rfl, hw1, hb1⟩
  rw [HM2.out]
  have HB1 := Lib.hid (((Below.refl w.heap.size w).alloc (Nat.le_refl _) (.cells #[.slice none 0 0] 32)).trans hb1)
  have HW1 := Lib.hid hw1
  clear hw1 hb1
  go_wp2_with fail
  rw [← HN2.out]
  refine (wuint_any N w1.heap.size [] _ (by have := HNB.out; omega) (Wr.zero w1) (by decide)).mono ?_
  rintro e w2 ⟨rfl, hw2, hb2⟩
  rw [HN2.out]
  have HC2 := Lib.hid (((Below.refl w1.heap.size w1).alloc (Nat.le_refl _) (.cells #[.slice none 0 0] 32)).trans hb2)
  have HX2 := Lib.hid hw2
  have HW2 := Lib.hid (HW1.out.new HC2.out)
  clear hw2 hb2
  go_wp2_with fail
  refine (wdone_any w.heap.size _ w2 HW2.out (by rw [List.nil_append]; have := HL8.out; omega)).mono ?_
  rintro e w3 ⟨a3, c3, rfl, hown3, hb3⟩
  have HC3 := Lib.hid (HC2.out.trans (hb3.mono HC2.out.size))
  have HX3 := Lib.hid (HX2.out.new hb3)
  have HI3 := Lib.hid (In.own hown3)
  rw [bI_len, List.nil_append] at HI3 ⊢
  clear hown3 hb3 HC2 HX2
  go_wp2_with fail
  refine (wdone_any w1.heap.size _ w3 HX3.out (by rw [List.nil_append]; have := HLN.out; omega)).mono ?_
  rintro e w4 ⟨a4, c4, rfl, hown4, hb4⟩
  have HC4 := Lib.hid (HC3.out.trans (hb4.mono HC3.out.size))
  have HI4 := Lib.hid (HI3.out.new hb4)
  have HJ4 := Lib.hid (In.own hown4)
  rw [bI_len, List.nil_append] at HJ4 ⊢
  clear hown4 hb4 HC3 HX3 HI3
  go_wp2_with fail
  refine (short_any label 20 w4 hlab (by decide)).mono ?_
  rintro e w' ⟨rfl, rfl⟩
  have HSS := Lib.hid (Nat.le_trans (short_size label 20) (show 20 ≤ 1000 by decide))
  generalize label.extract 0 20 = str at HSS
  obtain ⟨lp, hlp⟩ : ∃ l, (uv M).length = l := ⟨_, rfl⟩
  obtain ⟨lq, hlq⟩ : ∃ l, (uv N).length = l := ⟨_, rfl⟩
  rw [hlp, hlq]
  have HLP := Lib.hid hlp
  have HLQ := Lib.hid hlq
  have hlp8 : lp ≤ 8 := by rw [← hlp]; exact HL8.out
  rw [hlp] at HI4
  rw [hlq] at HJ4
  clear hlp hlq
  by_cases hne : lp = lq
  · subst hne
    have HQ := Lib.hid (hash_iff str.data.toList M N HMB.out HNB.out (HLP.out.trans HLQ.out.symm))
    have h8 : decide ((8 : Int) < (lp : Int)) = false := by simp; omega
    obtain ⟨p, hp⟩ : ∃ p : Int, ((bytesS str.data.toList (uv M)).toNat : Int) = p := ⟨_, rfl⟩
    obtain ⟨q, hq⟩ : ∃ p : Int, ((bytesS str.data.toList (uv N)).toNat : Int) = p := ⟨_, rfl⟩
    have hpq : (p == q) = (qm == qn) := by rw [← hp, ← hq, ← HM2.out, ← HN2.out]; exact HQ.out
    obtain ⟨same, hsame⟩ : ∃ same, (qm == qn) = same := ⟨_, rfl⟩
    rw [hsame] at hpq
    have hss : (same == same) = true := by cases same <;> rfl
    have HP := Lib.hid hp
    have HQQ := Lib.hid hq
    clear hp hq
    go_wp2_with fail
    refine (bytes_any str (uv M) a3 lp c3 w4.heap.size w4 HSS.out HLP.out.symm (by omega) HI4.out.rd (Nat.le_refl _)).mono ?_
    rw [HP.out]
    rintro e w5 ⟨rfl, hb5⟩
    have HC5 := Lib.hid (HC4.out.trans (hb5.mono HC4.out.size))
    have HJ5 := Lib.hid (HJ4.out.new hb5)
    clear hb5 HC4 HJ4
    go_wp2_with fail
    refine (bytes_any str (uv N) a4 lp c4 w5.heap.size w5 HSS.out HLQ.out.symm (by omega) HJ5.out.rd (Nat.le_refl _)).mono ?_
    rw [HQQ.out]
    rintro e w6 ⟨rfl, hb6⟩
    have HC6 := Lib.hid (HC5.out.trans (hb6.mono HC5.out.size))
    clear hb6 HC5 HJ5
    go_wp2_with fail
    refine (lives_any w6).mono ?_
    rintro e w7 ⟨rfl, hb7⟩
    have HC7 := Lib.hid (HC6.out.trans (hb7.mono HC6.out.size))
    go_wp2
    go_ret
    exact ⟨rfl, HB1.out.trans (HC7.out.mono HB1.out.size)⟩
  · have hmn : ¬ qm = qn := fun h => by
      have := HM2.out
      have := HN2.out
      have e : M = N := by omega
      exact hne (by rw [← HLP.out, ← HLQ.out, e])
    have hb1 : (((lp : Nat) : Int) != ((lq : Nat) : Int)) = true := by rw [bne_iff_ne]; omega
    have hb2 : (qm != qn) = true := by rw [bne_iff_ne]; exact hmn
    have hb3 : decide ((lp : Int) ≤ 8) = true := by simp; omega
    clear hmn hne
    go_wp2_with fail
    refine (lives_any w4).mono ?_
    rintro e w5 ⟨rfl, hb5⟩
    have HC5 := Lib.hid (HC4.out.trans (hb5.mono HC4.out.size))
    go_wp2
    go_ret
    exact ⟨rfl, HB1.out.trans (HC5.out.mono HB1.out.size)⟩
theorem wireHash_law (a0 a1 a2 : Int) (a3 : ByteArray) (w0 : (Lit.int .u64 a0).wf = true) (w1 : (Lit.int .u64 a1).wf = true) (w2 : (Lit.int .i64 a2).wf = true) (w3 : a3.size ≤ maxLen) (w : World) :
    Calls Try.prog 10 #[.int .u64 a0, .int .u64 a1, .int .i64 a2, .string a3] w fun e w' => e = .returned (.bool true) ∧ Below w.heap.size w w' := by
  obtain ⟨u, rfl, hu⟩ := u64_of_wf w0
  obtain ⟨v, rfl, hv⟩ := u64_of_wf w1
  exact wireHash_walk u v a2 a3 w hu hv w2 w3
end Go.Proofs.Ytgcgifjfgmhhmaa
