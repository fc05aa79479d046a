/- Contracts of the reference's helpers: what each returns, for every argument in range; memory that lay lies as it lay. -/
import Derived.WalkKit
import Derived.Outline
import Derived.WalkSpells
import Derived.WalkLawsBesides
import Derived.Test.YtgcgifjfgmhhmaaProg
import Derived.Test.YtgcgifjfgmhhmaaHMath
import Derived.Test.YtgcgifjfgmhhmaaHMem
import Derived.Lib.Hide
namespace Go.Proofs.Ytgcgifjfgmhhmaa
open Go.RowKit
theorem extract_all (s : ByteArray) (m : Nat) (h : s.size ≤ m) : s.extract 0 m = s := by
  apply ByteArray.ext
  rw [ByteArray.data_extract, Array.extract_eq_self_of_le (by simpa using h)]
theorem short_any (s : ByteArray) (m : Nat) (w : World) (_hs : s.size ≤ maxLen) (_hm : m ≤ 1000) :
    Calls Try.prog 36 #[.string s, .int .i64 m] w fun e w' => e = .returned (.string (s.extract 0 m)) ∧ w = w' := by
  unfold maxLen at _hs
  by_cases h : m < s.size
  · go_enter Try.func36, Try.ntmps36
    go_wp2
    go_ret
    exact ⟨rfl, rfl⟩
  · rw [extract_all s m (by omega)]
    go_enter Try.func36, Try.ntmps36
    go_wp2
    go_ret
    exact ⟨rfl, rfl⟩

/-- n modulo most, never negative. -/
def aroundI (v : Int) (n : Nat) : Nat := ((if v < 0 then -(v + 1) else v) % (n : Int)).toNat
theorem aroundI_lt (v : Int) {n : Nat} (h : 1 ≤ n) : aroundI v n < n := by
  unfold aroundI
  have := Int.emod_lt_of_pos (if v < 0 then -(v + 1) else v) (show 0 < (n : Int) by omega)
  have := Int.emod_nonneg (if v < 0 then -(v + 1) else v) (show (n : Int) ≠ 0 by omega)
  omega
theorem around_any (v : Int) (n : Nat) (w : World) (h1 : 1 ≤ n) (hn : n ≤ 1000) (hv : (Lit.int .i64 v).wf = true) :
    Calls Try.prog 19 #[.int .i64 v, .int .i64 n] w fun e w' => e = .returned (.int .i64 (aroundI v n : Nat)) ∧ w = w' := by
  have hb : -9223372036854775808 ≤ v ∧ v ≤ 9223372036854775807 := by
    simpa [Lit.wf, IntKind.min, IntKind.max, IntKind.signed, IntKind.bits] using hv
  obtain ⟨hb1, hb2⟩ := hb
  have e : ((aroundI v n : Nat) : Int) = (if v < 0 then -(v + 1) else v) % (n : Int) := by
    unfold aroundI
    have := Int.emod_nonneg (if v < 0 then -(v + 1) else v) (show (n : Int) ≠ 0 by omega)
    omega
  rw [e]
  clear e hv
  by_cases h : v < 0
  · rw [if_pos h, ← Int.tmod_eq_emod_of_nonneg (show 0 ≤ -(v + 1) by omega), Int.neg_tmod]
    go_enter Try.func19, Try.ntmps19
    go_wp2
    go_ret
    exact ⟨rfl, rfl⟩
  · rw [if_neg h]
    go_enter Try.func19, Try.ntmps19
    go_wp2
    go_ret
    exact ⟨rfl, rfl⟩

theorem int_info : (Try.prog.info? 3).map (fun i => (i.zero, i.size, i.bytes)) = some (some (.int .i64 0), 1, 8) := by kernel_rfl
theorem byte_info : (Try.prog.info? 5).map (fun i => (i.zero, i.size, i.bytes)) = some (some (.int .u8 0), 1, 1) := by kernel_rfl
theorem word_info : (Try.prog.info? 23).map (fun i => (i.zero, i.size, i.bytes)) = some (some (.int .u64 0), 1, 8) := by kernel_rfl

/-- A new slice with a list of integers in it, in memory of the call's own. -/
def Fresh (k : IntKind) (t : TypeId) (xs : List Int) (w : World) (e : Ending) (w' : World) : Prop :=
  ∃ a c, e = .returned (.slice a xs.length c) ∧ w'.ownsRow w.heap.size t 1 (.slice a xs.length c) xs.length (vs k xs) ∧ Below w.heap.size w w'

theorem ints_any (sv : Value) (xs : List Int) (m : Nat) (w : World) (h : Src .i64 w sv xs) (hx : xs.length ≤ maxLen) (hm : m ≤ 1000) :
    Calls Try.prog 13 #[sv, .int .i64 m] w (Fresh .i64 3 (xs.take m) w) := by
  unfold maxLen at hx
  obtain ⟨i0, hi, hz0, hz1, hz2⟩ := info_parts int_info
  rcases h with ⟨rfl, rfl⟩ | ⟨ad, c, rfl, hc, hcell⟩
  · rw [List.take_nil]
    go_enter Try.func13, Try.ntmps13
    go_wp2_with (at_builtin; refine wpList_append_own_none rfl _ _ 22 rfl w.heap.size 3 i0 1 Try.underlying22 hi (.slice none 0 0) 0 [] rfl (World.ownsRow_nil _ _ _ _) rfl ?_)
    go_ret
    exact ⟨none, 0, rfl, by simpa [vs] using World.ownsRow_nil _ _ _ _, Below.refl _ _⟩
  · have key : ∀ (n : Nat) (w' : World) (v' : Value), n = (xs.take m).length → w'.ownsRow w.heap.size 3 1 v' (0 + n) ([] ++ vs .i64 (xs.take m)) → w.grownBy w' (Value.slice none 0 0).ownBlock → Fresh .i64 3 (xs.take m) w (.returned v') w' := by
      intro n w' v' hn hown hg
      subst hn
      rw [Nat.zero_add, List.nil_append] at hown
      obtain ⟨a, c', rfl⟩ := own_form hown
      exact ⟨a, c', rfl, hown, (Below.refl _ w).grown hg (Nat.le_refl _) (by simp [Value.ownBlock])⟩
    have hcell' : ∀ j u, (vs .i64 (xs.take m))[j]? = some u → w.cell? (ad.add j) = some u := by
      intro j u hu
      simp only [vs, List.getElem?_map, Option.map_eq_some_iff] at hu
      obtain ⟨v, hv, rfl⟩ := hu
      rw [List.getElem?_take] at hv
      split at hv
      · exact hcell j v hv
      · cases hv
    have h1 := vs_one .i64 (xs.take m)
    by_cases hlt : m < xs.length
    · have hl : (vs .i64 (xs.take m)).length = m * 1 := by rw [vs_length, List.length_take]; omega
      have K := Lib.hid (key m · · (by rw [List.length_take]; omega))
      have C := Lib.hid hcell'
      clear key hcell' hcell
      go_enter Try.func13, Try.ntmps13
      go_wp2_with (at_builtin; refine wpList_append_own _ rfl _ _ 22 rfl w.heap.size 3 i0 (.int .i64 0) 1 8 Try.underlying22 hi hz0 hz1 hz2 rfl (by decide) _ _ _ rfl (World.ownsRow_nil _ _ _ _) ad m _ (vs .i64 (xs.take m)) rfl hl C.out h1 (by unfold maxLen; omega) (by omega) (Nat.le_refl _) ?_; intro v' w1 hown' hgrow _)
      go_ret
      exact K.out _ _ hown' hgrow
    · have hl : (vs .i64 (xs.take m)).length = xs.length * 1 := by rw [vs_length, List.length_take]; omega
      have K := Lib.hid (key xs.length · · (by rw [List.length_take]; omega))
      have C := Lib.hid hcell'
      clear key hcell' hcell
      go_enter Try.func13, Try.ntmps13
      go_wp2_with (at_builtin; refine wpList_append_own _ rfl _ _ 22 rfl w.heap.size 3 i0 (.int .i64 0) 1 8 Try.underlying22 hi hz0 hz1 hz2 rfl (by decide) _ _ _ rfl (World.ownsRow_nil _ _ _ _) ad xs.length _ (vs .i64 (xs.take m)) rfl hl C.out h1 (by unfold maxLen; omega) (by omega) (Nat.le_refl _) ?_; intro v' w1 hown' hgrow _)
      go_ret
      exact K.out _ _ hown' hgrow
theorem few_any (sv : Value) (xs : List Int) (m : Nat) (w : World) (h : Src .u8 w sv xs) (hx : xs.length ≤ maxLen) (hm : m ≤ 1000) :
    Calls Try.prog 12 #[sv, .int .i64 m] w (Fresh .u8 5 (xs.take m) w) := by
  unfold maxLen at hx
  obtain ⟨i0, hi, hz0, hz1, hz2⟩ := info_parts byte_info
  rcases h with ⟨rfl, rfl⟩ | ⟨ad, c, rfl, hc, hcell⟩
  · rw [List.take_nil]
    go_enter Try.func12, Try.ntmps12
    go_wp2_with (at_builtin; refine wpList_append_own_none rfl _ _ 24 rfl w.heap.size 5 i0 1 Try.underlying24 hi (.slice none 0 0) 0 [] rfl (World.ownsRow_nil _ _ _ _) rfl ?_)
    go_ret
    exact ⟨none, 0, rfl, by simpa [vs] using World.ownsRow_nil _ _ _ _, Below.refl _ _⟩
  · have key : ∀ (n : Nat) (w' : World) (v' : Value), n = (xs.take m).length → w'.ownsRow w.heap.size 5 1 v' (0 + n) ([] ++ vs .u8 (xs.take m)) → w.grownBy w' (Value.slice none 0 0).ownBlock → Fresh .u8 5 (xs.take m) w (.returned v') w' := by
      intro n w' v' hn hown hg
      subst hn
      rw [Nat.zero_add, List.nil_append] at hown
      obtain ⟨a, c', rfl⟩ := own_form hown
      exact ⟨a, c', rfl, hown, (Below.refl _ w).grown hg (Nat.le_refl _) (by simp [Value.ownBlock])⟩
    have hcell' : ∀ j u, (vs .u8 (xs.take m))[j]? = some u → w.cell? (ad.add j) = some u := by
      intro j u hu
      simp only [vs, List.getElem?_map, Option.map_eq_some_iff] at hu
      obtain ⟨v, hv, rfl⟩ := hu
      rw [List.getElem?_take] at hv
      split at hv
      · exact hcell j v hv
      · cases hv
    have h1 := vs_one .u8 (xs.take m)
    by_cases hlt : m < xs.length
    · have hl : (vs .u8 (xs.take m)).length = m * 1 := by rw [vs_length, List.length_take]; omega
      have K := Lib.hid (key m · · (by rw [List.length_take]; omega))
      have C := Lib.hid hcell'
      clear key hcell' hcell
      go_enter Try.func12, Try.ntmps12
      go_wp2_with (at_builtin; refine wpList_append_own _ rfl _ _ 24 rfl w.heap.size 5 i0 (.int .u8 0) 1 1 Try.underlying24 hi hz0 hz1 hz2 rfl (by decide) _ _ _ rfl (World.ownsRow_nil _ _ _ _) ad m _ (vs .u8 (xs.take m)) rfl hl C.out h1 (by unfold maxLen; omega) (by omega) (Nat.le_refl _) ?_; intro v' w1 hown' hgrow _)
      go_ret
      exact K.out _ _ hown' hgrow
    · have hl : (vs .u8 (xs.take m)).length = xs.length * 1 := by rw [vs_length, List.length_take]; omega
      have K := Lib.hid (key xs.length · · (by rw [List.length_take]; omega))
      have C := Lib.hid hcell'
      clear key hcell' hcell
      go_enter Try.func12, Try.ntmps12
      go_wp2_with (at_builtin; refine wpList_append_own _ rfl _ _ 24 rfl w.heap.size 5 i0 (.int .u8 0) 1 1 Try.underlying24 hi hz0 hz1 hz2 rfl (by decide) _ _ _ rfl (World.ownsRow_nil _ _ _ _) ad xs.length _ (vs .u8 (xs.take m)) rfl hl C.out h1 (by unfold maxLen; omega) (by omega) (Nat.le_refl _) ?_; intro v' w1 hown' hgrow _)
      go_ret
      exact K.out _ _ hown' hgrow
end Go.Proofs.Ytgcgifjfgmhhmaa
