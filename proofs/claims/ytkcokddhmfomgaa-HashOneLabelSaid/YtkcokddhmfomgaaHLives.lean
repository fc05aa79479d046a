/- The documented examples: the reference's and the law's helper 'lives' returns true; what lay lies as it lay. -/
import Derived.Test.YtkcokddhmfomgaaHBytes
namespace Go.Proofs.Ytkcokddhmfomgaa
open Go.RowKit

def toI (x : BitVec 64) : Int := (x.toNat : Int)
theorem toI_inj {x y : BitVec 64} (h : toI x = toI y) : x = y := by
  unfold toI at h
  exact BitVec.eq_of_toNat_eq (by omega)
theorem toI_ne {x y : BitVec 64} (h : x ≠ y) : (toI x != toI y) = true := by
  rw [bne_iff_ne]
  exact fun e => h (toI_inj e)
theorem lives_a : sumS [97] [5] ≠ sumS [97] [6] := by decide
theorem lives_b : bytesS [97] [1, 2] = sumS [97] [513, 2] := by decide
theorem lives_c : pairS 1#64 2#64 ≠ pairS 1#64 3#64 := by decide

set_option maxHeartbeats 800000 in
theorem lives_any (w : World) : Calls Try.prog 15 #[] w fun e w' => e = .returned (.bool true) ∧ Below w.heap.size w w' := by
  go_enter Try.func15, Try.ntmps15
  go_wp2_with fail
  refine (sum_any ⟨#[97]⟩ [5] _ 1 1 (w.heap.size + 1) _ (by decide) rfl (by decide) (two_new .i64 w 3 [5]) (by simp)).mono ?_
  rintro e w1 ⟨rfl, hb1⟩
  obtain ⟨p5, hp5⟩ : ∃ p, ((sumS [97] [5]).toNat : Int) = p := ⟨_, rfl⟩
  rw [hp5]
  have b1 : Below w.heap.size w w1 := ((Below.refl _ w).alloc (Nat.le_refl _) _).trans (hb1.mono (by simp))
  have P5 := Lib.hid hp5
  clear hp5 hb1
  go_wp2_with fail
  refine (sum_any ⟨#[97]⟩ [6] _ 1 1 (w1.heap.size + 1) _ (by decide) rfl (by decide) (two_new .i64 w1 3 [6]) (by simp)).mono ?_
  rintro e w2 ⟨rfl, hb2⟩
  obtain ⟨p6, hp6⟩ : ∃ p, ((sumS [97] [6]).toNat : Int) = p := ⟨_, rfl⟩
  rw [hp6]
  have b2 : Below w.heap.size w w2 := (b1.alloc b1.size _).trans (hb2.mono (by have := b1.size; simp; omega))
  have h56 : (p5 != p6) = true := by rw [← P5.out, ← hp6]; exact toI_ne lives_a
  clear hp6 hb2 P5 b1
  go_wp2_with fail
  refine (bytes_any ⟨#[97]⟩ [1, 2] _ 2 2 (w2.heap.size + 1) _ (by decide) rfl (by decide) (two_new .u8 w2 5 [1, 2]) (by simp)).mono ?_
  rintro e w3 ⟨rfl, hb3⟩
  have b3 : Below w.heap.size w w3 := (b2.alloc b2.size _).trans (hb3.mono (by have := b2.size; simp; omega))
  obtain ⟨q, hq⟩ : ∃ p, ((bytesS [97] [1, 2]).toNat : Int) = p := ⟨_, rfl⟩
  rw [hq]
  have Q := Lib.hid hq
  clear hq b2 hb3
  go_wp2_with fail
  refine (sum_any ⟨#[97]⟩ [513, 2] _ 2 2 (w3.heap.size + 1) _ (by decide) rfl (by decide) (two_new .i64 w3 3 [513, 2]) (by simp)).mono ?_
  rintro e w4 ⟨rfl, hb4⟩
  have b4 : Below w.heap.size w w4 := (b3.alloc b3.size _).trans (hb4.mono (by have := b3.size; simp; omega))
  rw [show ((sumS (ByteArray.mk #[97]).data.toList [513, 2]).toNat : Int) = q by rw [← Q.out, lives_b]]
  clear b3 hb4 Q
  go_wp2_with fail
  refine (pair_any 1#64 2#64 1 2 _ (by decide) (by decide)).mono ?_
  rintro e w5 ⟨rfl, hb5⟩
  have b5 : Below w.heap.size w w5 := b4.trans (hb5.mono b4.size)
  obtain ⟨c2, hc2⟩ : ∃ p, ((pairS 1#64 2#64).toNat : Int) = p := ⟨_, rfl⟩
  rw [hc2]
  have C2 := Lib.hid hc2
  clear hc2 b4 hb5
  go_wp2_with fail
  refine (pair_any 1#64 3#64 1 3 _ (by decide) (by decide)).mono ?_
  rintro e w6 ⟨rfl, hb6⟩
  have b6 : Below w.heap.size w w6 := b5.trans (hb6.mono b5.size)
  obtain ⟨c3, hc3⟩ : ∃ p, ((pairS 1#64 3#64).toNat : Int) = p := ⟨_, rfl⟩
  rw [hc3]
  have h23 : (c2 != c3) = true := by rw [← C2.out, ← hc3]; exact toI_ne lives_c
  clear hc3 hb6 C2 b5
  go_wp2
  go_ret
  exact ⟨rfl, b6⟩
end Go.Proofs.Ytkcokddhmfomgaa
