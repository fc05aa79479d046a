/- The walk of HashOneWord: the law returns true for every input; what lay lies as it lay. -/
import Derived.Test.YtkcokddhmfomgaaHLaw5
namespace Go.Proofs.Ytkcokddhmfomgaa
open Go.RowKit

/-- What a call in the law's last statement needs and leaves: the cell that is read there, and all that lay. -/
def Held (W : World) (g k : Nat) (p : Int) (w : World) : Prop := w.cell? ⟨g, k, none⟩ = some (.int .i64 p) ∧ Below W.heap.size W w
theorem held_step {W w w' : World} {g k : Nat} {p : Int} (h : Held W g k p w) (hg : g < W.heap.size) (hb : Below w.heap.size w w') : Held W g k p w' :=
  ⟨(hb.cell (p := ⟨g, k, none⟩) (Nat.lt_of_lt_of_le hg h.2.size)).trans h.1, h.2.trans (hb.mono h.2.size)⟩

theorem own_lt {w : World} {base e n size g c : Nat} {ys : List Value} (h : w.ownsRow base e size (.slice (some ⟨g, 0, none⟩) n c) n ys) : g < w.heap.size := by
  rcases h.2 with ⟨h0, _⟩ | ⟨g', cap, cur, h0, _, hh, _⟩
  · cases h0
  · injection h0 with h0
    injection h0 with h0
    injection h0 with h0
    rw [h0]
    exact (Array.getElem?_eq_some_iff.1 hh).1
theorem getD_some {A : List Int} {k : Nat} (h : k < A.length) : A[k]? = some (A.getD k 0) := by
  rw [List.getD_eq_getElem?_getD, List.getElem?_eq_getElem h]; rfl

set_option maxHeartbeats 1600000 in
theorem hashOneWord_walk (a0 : ByteArray) (a1 : Option Addr) (len1 cap1 : Nat) (xs : List Int) (at0 v : Int) (w : World) (w0 : a0.size ≤ maxLen) (h1 : Src .i64 w (.slice a1 len1 cap1) xs) (h2 : xs.length ≤ maxLen) (h3 : ∀ n ∈ xs, (Lit.int .i64 n).wf = true) (wat : (Lit.int .i64 at0).wf = true) (wv : (Lit.int .i64 v).wf = true) :
    Calls Try.prog 5 #[.string a0, .slice a1 len1 cap1, .int .i64 at0, .int .i64 v] w fun e w' => e = .returned (.bool true) ∧ Below w.heap.size w w' := by
  obtain ⟨i0, hi0, hz0, hz1, hz2⟩ := info_parts int_info
  obtain ⟨ws, hws⟩ : ∃ ws, xs.take 9 = ws := ⟨_, rfl⟩
  have hwl : ws.length ≤ 9 := by rw [← hws, List.length_take]; omega
  have HWF := Lib.hid (show ∀ n ∈ ws ++ [7], (Lit.int .i64 n).wf = true by
    intro n hn
    rcases List.mem_append.1 hn with hn | hn
    · rw [← hws] at hn; exact h3 n (List.mem_of_mem_take hn)
    · simp at hn; subst hn; decide)
  obtain ⟨m, hm⟩ : ∃ m, ws.length = m := ⟨_, rfl⟩
  rw [hm] at hwl
  have HWS := Lib.hid hws
  have HM := Lib.hid hm
  have HAT := Lib.hid wat
  have HV := Lib.hid wv
  clear hws hm h3 wat wv
  go_enter Try.func5, Try.ntmps5
  go_wp2_with fail
  refine (short_any a0 20 w w0 (by decide)).mono ?_
  rintro e w' ⟨rfl, rfl⟩
  have hs := Nat.le_trans (short_size a0 20) (show 20 ≤ 1000 by decide)
  generalize a0.extract 0 20 = s at hs
  go_wp2_with fail
  refine (ints_any _ xs 9 w h1 h2 (by decide)).mono ?_
  rintro e w1 ⟨a2, c2, rfl, hown, hb1⟩
  rw [HWS.out, HM.out] at hown ⊢
  have HO1 := Lib.hid (vs_one .i64 [(7 : Int)])
  have HO2 := Lib.hid (show m + 1 ≤ maxLen by unfold maxLen; omega)
  have HO3 := Lib.hid (show (m + 1) * 8 ≤ 140737488355328 by omega)
  have HO4 := Lib.hid (show w.heap.size ≤ (w1.alloc (.cells #[.int .i64 7] 3)).heap.size by have := hb1.size; simp; omega)
  go_wp2_with (at_builtin; refine wpList_append_own _ rfl _ _ 22 rfl w.heap.size 3 i0 (.int .i64 0) 1 8 Try.underlying22 hi0 hz0 hz1 hz2 rfl (by decide) _ _ _ rfl (hown.alloc _) ⟨w1.heap.size, 0, none⟩ 1 1 [.int .i64 7] rfl rfl (cell_one_new _ _ _) HO1.out HO2.out HO3.out HO4.out ?_; intro v' w2 hown' hgrow _)
  have b2 : Below w.heap.size w w2 := (hb1.alloc hb1.size _).grown hgrow (by have := hb1.size; simp; omega) (own_block_ge hown)
  obtain ⟨g, c3, rfl⟩ := ownsRow_succ hown'
  obtain ⟨A, hA⟩ : ∃ A, ws ++ [7] = A := ⟨_, rfl⟩
  have hAo : w2.ownsRow w.heap.size 3 1 (.slice (some ⟨g, 0, none⟩) (m + 1) c3) (m + 1) (vs .i64 A) := by rw [← hA, vs_snoc]; exact hown'
  rw [hA] at HWF
  have HAL := Lib.hid (show A.length = m + 1 by rw [← hA, List.length_append, HM.out]; rfl)
  obtain ⟨n, hn⟩ : ∃ n, m + 1 = n := ⟨_, rfl⟩
  rw [hn] at hAo HAL ⊢
  have hn1 : 1 ≤ n := by omega
  have hn2 : n ≤ 10 := by omega
  have RA := Lib.hid (Rd.own hAo)
  have hgl := own_lt hAo
  clear hn hA hown' hgrow hown hb1 HO1 HO2 HO3 HO4 HM hwl h1 h2
  go_wp2_with fail
  refine (ints_any _ A 10 w2 RA.out.src (by rw [HAL.out]; unfold maxLen; omega) (by decide)).mono ?_
  rintro e w3 ⟨a4, c4, rfl, hown4, hb3⟩
  rw [List.take_of_length_le (by rw [HAL.out]; exact hn2), HAL.out] at hown4 ⊢
  obtain ⟨n', hn'⟩ : ∃ n', n = n' + 1 := ⟨n - 1, by omega⟩
  obtain ⟨g4, c4', e4⟩ := ownsRow_succ (k := n') (by rw [← hn']; exact hown4)
  rw [← hn'] at e4
  injection e4 with e41 e42 e43
  subst e41
  subst e43
  have hAo3 := own_below hAo hb3
  have b3 : Below w.heap.size w w3 := b2.trans (hb3.mono b2.size)
  have z3 : w2.heap.size ≤ w3.heap.size := hb3.size
  have z2 : w.heap.size ≤ w2.heap.size := b2.size
  clear hn' hAo RA b2 hb3
  go_wp2_with fail
  refine (around_any at0 n w3 hn1 (by omega) HAT.out).mono ?_
  rintro e w' ⟨rfl, rfl⟩
  have hk := aroundI_lt at0 hn1
  generalize aroundI at0 n = k at hk
  have hcellB : w3.cell? ⟨g4, k, none⟩ = some (.int .i64 (A.getD k 0)) := by
    rw [hown4.cellAt k (by omega)]
    exact vs_get (getD_some (by rw [HAL.out]; exact hk))
  have hcellA : w3.cell? ⟨g, k, none⟩ = some (.int .i64 (A.getD k 0)) := by
    rw [hAo3.cellAt k (by omega)]
    exact vs_get (getD_some (by rw [HAL.out]; exact hk))
  have hfrB := hown4.frozenAt k
  obtain ⟨hst, hgr⟩ := hown4.stored k (.int .i64 v)
  have hgg : g ≠ g4 := by
    have := own_block_ge hown4 g4 rfl
    omega
  obtain ⟨old, hold⟩ : ∃ p, A.getD k 0 = p := ⟨_, rfl⟩
  rw [hold] at hcellB hcellA
  have HOLD := Lib.hid hold
  clear hold
  go_wp2_with fail
  obtain ⟨W, hW⟩ : ∃ W, w3.setCell ⟨g4, k, none⟩ (.int .i64 v) = W := ⟨_, rfl⟩
  rw [hW] at hst hgr ⊢
  have cA : W.cell? ⟨g, k, none⟩ = some (.int .i64 old) := by
    rw [← hW, World.cell?_setCell_other _ _ _ _ (fun e => hgg (by injection e with e1; exact e1.symm))]
    exact hcellA
  have bW : Below w.heap.size w W := by rw [← hW]; exact b3.setCell (p := ⟨g4, k, none⟩) (by have := own_block_ge hown4 g4 rfl; have := b3.size; show w.heap.size ≤ g4; omega) _
  have RA : Rd .i64 W W.heap.size (.slice (some ⟨g, 0, none⟩) n c3) A := Rd.own (hAo3.kept hgr (.inr (fun e => hgg (by simpa [Value.ownBlock] using e))))
  have RB : Rd .i64 W W.heap.size (.slice (some ⟨g4, 0, none⟩) n c4) (A.set k v) := Rd.own (n := n) (base := w2.heap.size) (e := 3) (by rw [vs, List.map_set]; exact hst)
  have gW : g < W.heap.size := by rw [← hW]; simp; omega
  have HSS := Lib.hid (sumS_set s.data.toList A k v (by rw [HAL.out]; exact hk) (HWF.out _ (by rw [List.getD_eq_getElem?_getD, List.getElem?_eq_getElem (by rw [HAL.out]; exact hk)]; exact List.getElem_mem _)) HV.out)
  obtain ⟨p, hp⟩ : ∃ p, toI (sumS s.data.toList A) = p := ⟨_, rfl⟩
  obtain ⟨q, hq⟩ : ∃ q, toI (sumS s.data.toList (A.set k v)) = q := ⟨_, rfl⟩
  have hpq : (p == q) = (old == v) := by rw [← hp, ← hq, ← HOLD.out]; exact HSS.out
  have hk0 : (0 : Int) ≤ (k : Int) := by omega
  have hk1 : (k : Int) < (n : Int) := by omega
  have KA : Hid (∀ w', (w'.cell? ⟨g, k, none⟩ = some (.int .i64 old) ∧ Below W.heap.size W w') → Calls Try.prog 13 #[.string s, .slice (some ⟨g, 0, none⟩) n c3] w' fun e w'' => e = .returned (.int .u64 p) ∧ w''.cell? ⟨g, k, none⟩ = some (.int .i64 old) ∧ Below W.heap.size W w'') :=
    Lib.hid (fun w' ⟨hc, hb⟩ => (sum_any s A _ n c3 W.heap.size w' hs HAL.out.symm (by omega) (RA.below hb (Nat.le_refl _)) hb.size).mono (fun e w'' ⟨he, h⟩ => ⟨by rw [he, ← hp]; rfl, (h.cell (p := ⟨g, k, none⟩) (Nat.lt_of_lt_of_le gW hb.size)).trans hc, hb.trans (h.mono hb.size)⟩))
  have KB : Hid (∀ w', (w'.cell? ⟨g, k, none⟩ = some (.int .i64 old) ∧ Below W.heap.size W w') → Calls Try.prog 13 #[.string s, .slice (some ⟨g4, 0, none⟩) n c4] w' fun e w'' => e = .returned (.int .u64 q) ∧ w''.cell? ⟨g, k, none⟩ = some (.int .i64 old) ∧ Below W.heap.size W w'') :=
    Lib.hid (fun w' ⟨hc, hb⟩ => (sum_any s (A.set k v) _ n c4 W.heap.size w' hs (by rw [List.length_set]; exact HAL.out.symm) (by omega) (RB.below hb (Nat.le_refl _)) hb.size).mono (fun e w'' ⟨he, h⟩ => ⟨by rw [he, ← hq]; rfl, (h.cell (p := ⟨g, k, none⟩) (Nat.lt_of_lt_of_le gW hb.size)).trans hc, hb.trans (h.mono hb.size)⟩))
  have KL : Hid (∀ w', (w'.cell? ⟨g, k, none⟩ = some (.int .i64 old) ∧ Below W.heap.size W w') → Calls Try.prog 15 #[] w' fun e w'' => e = .returned (.bool true) ∧ w''.cell? ⟨g, k, none⟩ = some (.int .i64 old) ∧ Below W.heap.size W w'') :=
    Lib.hid (fun w' ⟨hc, hb⟩ => (lives_any w').mono (fun e w'' ⟨he, h⟩ => ⟨he, (h.cell (p := ⟨g, k, none⟩) (Nat.lt_of_lt_of_le gW hb.size)).trans hc, hb.trans (h.mono hb.size)⟩))
  have bR := Below.refl W.heap.size W
  clear hp hq HSS HOLD RA RB gW hst hgr hcellA hcellB hAo3 hown4 hgg hfrB b3 hW hk z3 hgl
  obtain ⟨same, hsame⟩ : ∃ same, (old == v) = same := ⟨_, rfl⟩
  rw [hsame] at hpq
  have hss : (same == same) = true := by cases same <;> rfl
  go_region_held3 (fun w' => w'.cell? ⟨g, k, none⟩ = some (.int .i64 old) ∧ Below W.heap.size W w') (first | assumption | exact ⟨cA, bR.drew⟩ | go_keep)
    (first | (go_at_call_of 13 g; refine (KA.out _ ?_).mono ?_; assumption; rintro e w' ⟨rfl, hc'⟩) | (go_at_call_of 13 g4; refine (KB.out _ ?_).mono ?_; assumption; rintro e w' ⟨rfl, hc'⟩) | (go_at_call 15; refine (KL.out _ ?_).mono ?_; assumption; rintro e w' ⟨rfl, hc'⟩))
  all_goals (rename_i hlast)
  all_goals (have hend := bW.trans (hlast.2.mono bW.size))
  all_goals go_wp2
  all_goals go_ret
  all_goals exact ⟨rfl, hend⟩
end Go.Proofs.Ytkcokddhmfomgaa
