/- The walk of WideProducts: the law returns true for every input; what lay lies as it lay. -/
import Derived.Test.YtglccalghfannaaNRd
namespace Go.Proofs.Ytglccalghfannaa
open Go.RowKit
attribute [local go_sem ↓] Go.wp_at_zero Go.wp_at_succ
theorem src_of_row {k : IntKind} {w : World} {a : Option Addr} {len cap : Nat} {zs : List Int}
    (h : (a = none ∧ len = 0 ∧ cap = 0 ∧ zs = []) ∨ ∃ x, a = some x ∧ len ≤ cap ∧ cap ≤ maxLen ∧ zs.length = cap ∧ (∀ i, i < zs.length → w.cell? (x.add i) = some (.int k (zs.getD i 0))) ∧ ∀ n ∈ zs, (Lit.int k n).wf = true) :
    Src k w (.slice a len cap) (zs.take len) ∧ (zs.take len).length ≤ maxLen ∧ ∀ n ∈ zs.take len, (Lit.int k n).wf = true := by
  rcases h with ⟨rfl, rfl, rfl, rfl⟩ | ⟨x, rfl, h1, h2, h3, h4, h5⟩
  · exact ⟨.inl ⟨rfl, rfl⟩, by simp, fun n hn => by simp at hn⟩
  · have hl : (zs.take len).length = len := by rw [List.length_take]; omega
    refine ⟨.inr ⟨x, cap, by rw [hl], by omega, fun j v hj => ?_⟩, by omega, fun n hn => h5 n (List.mem_of_mem_take hn)⟩
    have hjl : j < zs.length := by have := (List.getElem?_eq_some_iff.1 hj).1; omega
    rw [List.getElem?_take] at hj
    split at hj
    · have := h4 j hjl
      rw [List.getD_eq_getElem?_getD, hj] at this
      exact this
    · cases hj

def RowI (k : IntKind) (w : World) (a : Option Addr) (len cap : Nat) (zs : List Int) : Prop :=
  (a = none ∧ len = 0 ∧ cap = 0 ∧ zs = []) ∨ ∃ x, a = some x ∧ len ≤ cap ∧ cap ≤ maxLen ∧ zs.length = cap ∧ (∀ i, i < zs.length → w.cell? (x.add i) = some (.int k (zs.getD i 0))) ∧ ∀ n ∈ zs, (Lit.int k n).wf = true
theorem RowI.open_ {k : IntKind} {w : World} {a : Option Addr} {len cap : Nat} {zs : List Int} (h : RowI k w a len cap zs) :
    ∃ ls : List Int, ls.length = len ∧ len ≤ maxLen ∧ (∀ x ∈ ls, (Lit.int k x).wf = true) ∧ Src k w (.slice a len cap) ls := by
  obtain ⟨h1, h2, h3⟩ := src_of_row h
  have hl : (zs.take len).length = len := by
    rcases h with ⟨_, rfl, _, rfl⟩ | ⟨x, _, h4, h5, h6, _⟩
    · rfl
    · rw [List.length_take]; omega
  exact ⟨zs.take len, hl, by rw [← hl]; exact h2, h3, h1⟩

theorem two_lim {x : Int} {k : Nat} (h : x.natAbs < 2 ^ k) (hk : k ≤ 32 * limE) : x.natAbs < lim := by
  rw [lim_two]
  exact Nat.lt_of_lt_of_le h (Nat.pow_le_pow_right (by decide) hk)
theorem num_lt {x : Int} (h : x.natAbs < numB) : x.natAbs < 2 ^ 240 := h
theorem num_lim {x : Int} (h : x.natAbs < numB) : x.natAbs < lim := two_lim (num_lt h) (by decide)
theorem mul_two {x y : Int} {j k : Nat} (hx : x.natAbs < 2 ^ j) (hy : y.natAbs < 2 ^ k) : (x * y).natAbs < 2 ^ (j + k) := by
  rw [Int.natAbs_mul, Nat.pow_add]
  exact Nat.mul_lt_mul'' hx hy
theorem pi_len {x : Int} {w : World} {s : Bool} {A : Option Addr} {n c m : Nat} (h : PI w s A n c x) (hx : x.natAbs < 2 ^ m) : n ≤ m := by
  rw [← h.2.1]
  exact digs_len_le (by decide) (Nat.lt_of_lt_of_le hx (Nat.pow_le_pow_left (by decide) m))
set_option maxRecDepth 100000 in
set_option maxHeartbeats 6400000 in
theorem wideProducts_walk (xs : List Int) (A : Option Addr) (ln c : Nat) (w : World) (hg : Got w (.slice A ln c) xs) :
    Calls Try.prog 6 #[.slice A ln c] w fun e w' => e = .returned (.bool true) ∧ Below w.heap.size w w' := by
  have HG := Lib.hid hg
  clear hg
  go_enter Try.func6, Try.ntmps6
  go_wp2_with fail
  refine (number_any (.slice A ln c) xs 0 w HG.out (by decide)).mono ?_
  rintro e w1 ⟨x, s1, A1, n1, c1, rfl, hr1, hx, hb1⟩
  obtain ⟨x1, hx1⟩ : ∃ z, w1.alloc (.cells #[.bool s1, .slice A1 n1 c1] 25) = z := ⟨_, rfl⟩
  have HB1 := Lib.hid (show Below w.heap.size w x1 by rw [← hx1]; exact hb1.alloc hb1.size _)
  have HQ1 := Lib.hid (show P2 25 x1 w1.heap.size (.bool s1) (.slice A1 n1 c1) by rw [← hx1]; exact P2.lit _ _ _ _)
  have HR1 := Lib.hid (show RN x1 s1 A1 n1 c1 x by rw [← hx1]; exact hr1.new ((Below.refl _ _).alloc (Nat.le_refl _) _))
  have HX := Lib.hid hx
  have hn1 : n1 ≤ 240 := rn_len hr1 (num_lt hx)
  clear hr1 hx hb1
  go_wp2_with fail
  refine (number_any (.slice A ln c) xs 6 x1 (HG.out.new HB1.out) (by decide)).mono ?_
  rintro e w2 ⟨y, s2, A2, n2, c2, rfl, hr2, hy, hb2⟩
  obtain ⟨x2, hx2⟩ : ∃ z, w2.alloc (.cells #[.bool s2, .slice A2 n2 c2] 25) = z := ⟨_, rfl⟩
  have HB2 := Lib.hid (show Below x1.heap.size x1 x2 by rw [← hx2]; exact hb2.alloc hb2.size _)
  have HQ2 := Lib.hid (show P2 25 x2 w2.heap.size (.bool s2) (.slice A2 n2 c2) by rw [← hx2]; exact P2.lit _ _ _ _)
  have HR2 := Lib.hid (show RN x2 s2 A2 n2 c2 y by rw [← hx2]; exact hr2.new ((Below.refl _ _).alloc (Nat.le_refl _) _))
  have HY := Lib.hid hy
  have hn2 : n2 ≤ 240 := rn_len hr2 (num_lt hy)
  obtain ⟨a0, a1⟩ := (HQ1.out.new HB2.out).cells
  clear hr2 hy hb2 hx1
  go_wp2_with fail
  refine (wider_any x s1 A1 n1 c1 x2 (HR1.out.new HB2.out) (by omega) (num_lim HX.out)).mono ?_
  rintro e w3 ⟨s3, A3, n3, c3, rfl, hr3, hb3⟩
  obtain ⟨x3, hx3⟩ : ∃ z, w3.alloc (.cells #[.bool s3, .slice A3 n3 c3] 33) = z := ⟨_, rfl⟩
  have HB3 := Lib.hid (show Below x2.heap.size x2 x3 by rw [← hx3]; exact hb3.alloc hb3.size _)
  have HQ3 := Lib.hid (show P2 33 x3 w3.heap.size (.bool s3) (.slice A3 n3 c3) by rw [← hx3]; exact P2.lit _ _ _ _)
  have HR3 := Lib.hid (show PI x3 s3 A3 n3 c3 x by rw [← hx3]; exact PIo.new hr3 ((Below.refl _ _).alloc (Nat.le_refl _) _))
  have hn3 : n3 ≤ 240 := pi_len hr3 (num_lt HX.out)
  obtain ⟨b0, b1⟩ := (HQ2.out.new HB3.out).cells
  clear hr3 hb3 hx2 a0 a1
  go_wp2_with fail
  refine (wider_any y s2 A2 n2 c2 x3 (HR2.out.new HB3.out) (by omega) (num_lim HY.out)).mono ?_
  rintro e w4 ⟨s4, A4, n4, c4, rfl, hr4, hb4⟩
  obtain ⟨x4, hx4⟩ : ∃ z, w4.alloc (.cells #[.bool s4, .slice A4 n4 c4] 33) = z := ⟨_, rfl⟩
  have HB4 := Lib.hid (show Below x3.heap.size x3 x4 by rw [← hx4]; exact hb4.alloc hb4.size _)
  have HQ4 := Lib.hid (show P2 33 x4 w4.heap.size (.bool s4) (.slice A4 n4 c4) by rw [← hx4]; exact P2.lit _ _ _ _)
  have HR4 := Lib.hid (show PI x4 s4 A4 n4 c4 y by rw [← hx4]; exact PIo.new hr4 ((Below.refl _ _).alloc (Nat.le_refl _) _))
  have hn4 : n4 ≤ 240 := pi_len hr4 (num_lt HY.out)
  obtain ⟨a0, a1⟩ := (HQ3.out.new HB4.out).cells
  obtain ⟨d0, d1⟩ := HQ4.out.cells
  clear hr4 hb4 hx3 b0 b1
  have HXY := Lib.hid (mul_two (num_lt HX.out) (num_lt HY.out))
  have HIN := Lib.hid (in_lim (two_lim HXY.out (by decide)))
  go_wp2_with fail
  refine (pmul_any x y s3 s4 A3 A4 n3 c3 n4 c4 x4 (PIo.new HR3.out HB4.out) HR4.out (by omega) (by omega)).mono ?_
  rw [HIN.out.1, HIN.out.2]
  rintro e w5 ⟨s5, A5, n5, c5, rfl, hr5, hb5⟩
  obtain ⟨x5, hx5⟩ : ∃ z, w5.alloc (.cells #[.bool s5, .slice A5 n5 c5] 33) = z := ⟨_, rfl⟩
  have HB5 := Lib.hid (show Below x4.heap.size x4 x5 by rw [← hx5]; exact hb5.alloc hb5.size _)
  have HQ5 := Lib.hid (show P2 33 x5 w5.heap.size (.bool s5) (.slice A5 n5 c5) by rw [← hx5]; exact P2.lit _ _ _ _)
  have HR5 := Lib.hid (show PI x5 s5 A5 n5 c5 (x * y) by rw [← hx5]; exact PIo.new hr5 ((Below.refl _ _).alloc (Nat.le_refl _) _))
  have hn5 : n5 ≤ 240 + 240 := pi_len hr5 HXY.out
  have HC1 := Lib.hid (bt (bt (bt HB2.out HB3.out) HB4.out) HB5.out)
  have HC2 := Lib.hid (bt (bt HB3.out HB4.out) HB5.out)
  have HE1 := Lib.hid (HQ1.out.new HC1.out)
  have HE2 := Lib.hid (HQ2.out.new HC2.out)
  have HF1 := Lib.hid (HR1.out.new HC1.out)
  have HF2 := Lib.hid (HR2.out.new HC2.out)
  have HW := Lib.hid (bt HB1.out HC1.out)
  clear hr5 hb5 hx4 a0 a1 d0 d1 HQ1 HQ2 HR1 HR2 HQ3 HR3 HQ4 HR4 HIN HC1 HC2 HB1 HB2 HB3 HB4 HB5
  let S := fun w' : World => w'.cell? ⟨w5.heap.size, 0, none⟩ = some (.bool s5) ∧ w'.cell? ⟨w5.heap.size, 1, none⟩ = some (.slice A5 n5 c5) ∧ w'.cell? ⟨w1.heap.size, 0, none⟩ = some (.bool s1) ∧ w'.cell? ⟨w1.heap.size, 1, none⟩ = some (.slice A1 n1 c1) ∧ w'.cell? ⟨w2.heap.size, 0, none⟩ = some (.bool s2) ∧ w'.cell? ⟨w2.heap.size, 1, none⟩ = some (.slice A2 n2 c2) ∧ Below x5.heap.size x5 w'
  have hS : ∀ w', Below x5.heap.size x5 w' → S w' := fun w' hb => ⟨(HQ5.out.new hb).cells.1, (HQ5.out.new hb).cells.2, (HE1.out.new hb).cells.1, (HE1.out.new hb).cells.2, (HE2.out.new hb).cells.1, (HE2.out.new hb).cells.2, hb⟩
  have K1 : Hid (∀ w', S w' → Calls Try.prog 32 #[.agg #[.bool s1, .slice A1 n1 c1], .agg #[.bool s2, .slice A2 n2 c2]] w' fun e w'' => (∃ s A n c, e = .returned (.agg #[.bool s, .slice A n c]) ∧ Hid (RN w'' s A n c (x * y) ∧ n ≤ 240 + 240)) ∧ S w'') :=
    Lib.hid (fun w' h => (mul_any x y s1 s2 A1 A2 n1 c1 n2 c2 w' (HF1.out.new h.2.2.2.2.2.2) (HF2.out.new h.2.2.2.2.2.2) (by omega) (by omega)).mono (fun e w'' ⟨s, A, n, c, he, hr, hb⟩ => ⟨⟨s, A, n, c, he, Lib.hid ⟨hr, rn_len hr HXY.out⟩⟩, hS _ (bt h.2.2.2.2.2.2 hb)⟩))
  have K2 : Hid (∀ w' s A n c, S w' → Hid (RN w' s A n c (x * y) ∧ n ≤ 240 + 240) → Calls Try.prog 18 #[.agg #[.bool s5, .slice A5 n5 c5], .agg #[.bool s, .slice A n c]] w' fun e w'' => e = .returned (.bool true) ∧ S w'') :=
    Lib.hid (fun w' s A n c h hr => (equal_any (x * y) (x * y) s5 s A5 A n5 c5 n c w' (PIo.new HR5.out h.2.2.2.2.2.2) hr.out.1 (by omega) (by have := hr.out.2; omega)).mono (fun e w'' ⟨he, hb⟩ => ⟨by rw [he, eqB_self], hS _ (bt h.2.2.2.2.2.2 hb)⟩))
  have K3 : Hid (∀ w', S w' → Calls Try.prog 20 #[] w' fun e w'' => e = .returned (.bool true) ∧ S w'') :=
    Lib.hid (fun w' h => (lives_any w').mono (fun e w'' ⟨he, hb⟩ => ⟨he, hS _ (bt h.2.2.2.2.2.2 hb)⟩))
  have bR := hS _ (Below.refl x5.heap.size x5).drew
  clear hS
  go_wp2_with fail
  go_region_held3 (fun w' => w'.cell? ⟨w5.heap.size, 0, none⟩ = some (.bool s5) ∧ w'.cell? ⟨w5.heap.size, 1, none⟩ = some (.slice A5 n5 c5) ∧ w'.cell? ⟨w1.heap.size, 0, none⟩ = some (.bool s1) ∧ w'.cell? ⟨w1.heap.size, 1, none⟩ = some (.slice A1 n1 c1) ∧ w'.cell? ⟨w2.heap.size, 0, none⟩ = some (.bool s2) ∧ w'.cell? ⟨w2.heap.size, 1, none⟩ = some (.slice A2 n2 c2) ∧ Below x5.heap.size x5 w') (first | assumption | exact bR | go_keep)
    (first | (go_at_call 32; refine (K1.out _ ?_).mono ?_; assumption; rintro e w' ⟨⟨s7, A7, n7, c7, rfl, hr7⟩, hc'⟩) | (go_at_call 18; refine (K2.out _ s7 A7 n7 c7 ?_ hr7).mono ?_; assumption; rintro e w' ⟨rfl, hc'⟩) | (go_at_call 20; refine (K3.out _ ?_).mono ?_; assumption; rintro e w' ⟨rfl, hc'⟩))
  all_goals
    rename_i hlast
    have HL := Lib.hid hlast.2.2.2.2.2.2
    clear hlast
    go_wp2
    go_ret
    exact ⟨rfl, bt HW.out HL.out⟩
theorem wideProducts_law (a0 : Option Addr) (len0 cap0 : Nat) (z0 : List Int) (w : World) (w0 : RowI .i64 w a0 len0 cap0 z0) :
    Calls Try.prog 6 #[.slice a0 len0 cap0] w fun e w' => e = .returned (.bool true) ∧ Below w.heap.size w w' := by
  obtain ⟨ls, h1, h2, h3, h4⟩ := w0.open_
  exact wideProducts_walk ls a0 len0 cap0 w ⟨h4, by rw [h1]; exact h2, h3⟩
end Go.Proofs.Ytglccalghfannaa
