/- The walks of HashBytes, HashPairs and HashArguments: each law returns true for every input; what lay lies as it lay. -/
import Derived.Test.YtkcokddhmfomgaaHLaw1
import Derived.OpenShut
namespace Go.Proofs.Ytkcokddhmfomgaa
open Go.RowKit

theorem word_of_wf {a : Int} (h : (Lit.int .u64 a).wf = true) : ∃ x : BitVec 64, a = (x.toNat : Int) := by
  exact ⟨BitVec.ofInt 64 a, (IntWalk.u64_in a (bounds_u64 h)).symm.trans (u64_ofInt a)⟩
theorem pairS_unfold (x y : BitVec 64) : pairS x y = mx (mx (mx (headS pairL 2) x) y) 0#64 := by
  have e : ∀ (h : BitVec 64) (a b : Int), mx (mxi h [a, b]) 0#64 = mx (mx (mx h (BitVec.ofInt 64 a)) (BitVec.ofInt 64 b)) 0#64 := fun _ _ _ => rfl
  unfold pairS sumS
  rw [e, BitVec.ofInt_toInt, BitVec.ofInt_toInt]
  rfl
theorem pairS_left {x y z : BitVec 64} (h : pairS x z = pairS y z) : x = y := by
  rw [pairS_unfold, pairS_unfold] at h
  exact mx_word (mx_state (mx_state h))
theorem pairS_right {x y z : BitVec 64} (h : pairS z x = pairS z y) : x = y := by
  rw [pairS_unfold, pairS_unfold] at h
  exact mx_word (mx_state h)

set_option maxHeartbeats 800000 in
theorem hashPairs_walk (a b c : Int) (wa : (Lit.int .u64 a).wf = true) (wb : (Lit.int .u64 b).wf = true) (wc : (Lit.int .u64 c).wf = true) (w : World) :
    Calls Try.prog 9 #[.int .u64 a, .int .u64 b, .int .u64 c] w fun e w' => e = .returned (.bool true) ∧ Below w.heap.size w w' := by
  obtain ⟨x, hx⟩ := word_of_wf wa
  obtain ⟨y, hy⟩ := word_of_wf wb
  obtain ⟨z, hz⟩ := word_of_wf wc
  have HX := Lib.hid hx
  have HY := Lib.hid hy
  have HZ := Lib.hid hz
  have WX := Lib.hid (show wrap64 a = x.toInt by rw [hx]; exact wrap_toInt x)
  have WY := Lib.hid (show wrap64 b = y.toInt by rw [hy]; exact wrap_toInt y)
  have K : ∀ (same : Bool), (a == b) = same → (toI (pairS x z) == toI (pairS y z)) = same ∧ (toI (pairS z x) == toI (pairS z y)) = same := by
    intro same hs
    subst hs
    by_cases e : a = b
    · have exy : x = y := BitVec.eq_of_toNat_eq (by omega)
      rw [exy, e]; simp
    · have h1 : toI (pairS x z) ≠ toI (pairS y z) := fun h => e (by rw [hx, hy, pairS_left (toI_inj h)])
      have h2 : toI (pairS z x) ≠ toI (pairS z y) := fun h => e (by rw [hx, hy, pairS_right (toI_inj h)])
      rw [beq_eq_false_iff_ne.2 h1, beq_eq_false_iff_ne.2 h2, beq_eq_false_iff_ne.2 e]
      exact ⟨rfl, rfl⟩
  have HK := Lib.hid K
  clear K hx hy hz wa wb wc
  obtain ⟨same, hs⟩ : ∃ same, (a == b) = same := ⟨_, rfl⟩
  have hk := HK.out same hs
  clear HK
  obtain ⟨p1, h1⟩ : ∃ p, toI (pairS x z) = p := ⟨_, rfl⟩
  obtain ⟨p2, h2⟩ : ∃ p, toI (pairS y z) = p := ⟨_, rfl⟩
  obtain ⟨p3, h3⟩ : ∃ p, toI (pairS z x) = p := ⟨_, rfl⟩
  obtain ⟨p4, h4⟩ : ∃ p, toI (pairS z y) = p := ⟨_, rfl⟩
  rw [h1, h2, h3, h4] at hk
  obtain ⟨k1, k2⟩ := hk
  have P1 := Lib.hid h1
  have P2 := Lib.hid h2
  have P3 := Lib.hid h3
  have P4 := Lib.hid h4
  clear h1 h2 h3 h4
  unfold toI at P1 P2 P3 P4
  have done : ∀ same : Bool, (same == same) = true := fun s => by cases s <;> rfl
  have hss := done same
  clear done
  go_enter Try.func9, Try.ntmps9
  go_wp2_with fail
  refine (pair_any x z a c w HX.out HZ.out).mono ?_
  rintro e w1 ⟨rfl, b1⟩
  rw [P1.out]
  clear P1
  go_wp2_with fail
  refine (pair_any y z b c w1 HY.out HZ.out).mono ?_
  rintro e w2 ⟨rfl, hb2⟩
  rw [P2.out]
  have b2 : Below w.heap.size w w2 := b1.trans (hb2.mono b1.size)
  clear P2 hb2 b1
  go_wp2_with fail
  refine (pair_any z x c a w2 HZ.out HX.out).mono ?_
  rintro e w3 ⟨rfl, hb3⟩
  rw [P3.out]
  have b3 : Below w.heap.size w w3 := b2.trans (hb3.mono b2.size)
  clear P3 hb3 b2
  go_wp2_with fail
  refine (pair_any z y c b w3 HZ.out HY.out).mono ?_
  rintro e w4 ⟨rfl, hb4⟩
  rw [P4.out]
  have b4 : Below w.heap.size w w4 := b3.trans (hb4.mono b3.size)
  clear P4 hb4 b3
  go_wp2_with fail
  refine (pair_any x y a b w4 HX.out HY.out).mono ?_
  rintro e w5 ⟨rfl, hb5⟩
  have b5 : Below w.heap.size w w5 := b4.trans (hb5.mono b4.size)
  clear hb5 b4
  obtain ⟨q, hq⟩ : ∃ p, ((pairS x y).toNat : Int) = p := ⟨_, rfl⟩
  rw [hq]
  have Q := Lib.hid hq
  clear hq
  go_wp2_with fail
  rw [WX.out, WY.out]
  refine (sum_any ⟨#[112, 97, 105, 114]⟩ [x.toInt, y.toInt] _ 2 2 (w5.heap.size + 1) _ (by decide) rfl (by decide) (two_new .i64 w5 3 [x.toInt, y.toInt]) (by simp)).mono ?_
  rintro e w6 ⟨rfl, hb6⟩
  have b6 : Below w.heap.size w w6 := (b5.alloc b5.size _).trans (hb6.mono (by have := b5.size; simp; omega))
  clear hb6 b5
  rw [show ((sumS (ByteArray.mk #[112, 97, 105, 114]).data.toList [x.toInt, y.toInt]).toNat : Int) = q from Q.out]
  clear Q
  go_wp2_with fail
  refine (lives_any w6).mono ?_
  rintro e w7 ⟨rfl, hb7⟩
  have b7 : Below w.heap.size w w7 := b6.trans (hb7.mono b6.size)
  go_wp2
  go_ret
  exact ⟨rfl, b7⟩
end Go.Proofs.Ytkcokddhmfomgaa
