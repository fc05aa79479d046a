/- Contracts of the reference's helpers: Short, Around, Pick, Bound. -/
import Derived.Test.YtpcliampffeknaaNLb
namespace Go.Proofs.Ytpcliampffeknaa
open Go.RowKit
attribute [local go_sem ↓] Go.wp_at_zero Go.wp_at_succ
theorem extract_all (s : ByteArray) (m : Nat) (h : s.size ≤ m) : s.extract 0 m = s := by
  apply ByteArray.ext
  rw [ByteArray.data_extract, Array.extract_eq_self_of_le (by simpa using h)]
theorem short_any (s : ByteArray) (m : Nat) (w : World) (_hs : s.size ≤ maxLen) (_hm : m ≤ 1000) :
    Calls Try.prog 13 #[.string s, .int .i64 m] w fun e w' => e = .returned (.string (s.extract 0 m)) ∧ w = w' := by
  unfold maxLen at _hs
  by_cases h : m < s.size
  · go_enter Try.func13, Try.ntmps13
    go_wp2
    go_ret
    exact ⟨rfl, rfl⟩
  · rw [extract_all s m (by omega)]
    go_enter Try.func13, Try.ntmps13
    go_wp2
    go_ret
    exact ⟨rfl, rfl⟩
/-- n modulo most, never negative. -/
def aroundI (v : Int) (n : Nat) : Nat := ((if v < 0 then -(v + 1) else v) % (n : Int)).toNat
theorem aroundI_lt (v : Int) {n : Nat} (h : 1 ≤ n) : aroundI v n < n := by
  unfold aroundI
  have := Int.emod_lt_of_pos (if v < 0 then -(v + 1) else v) (show 0 < (n : Int) by omega)
  have := Int.emod_nonneg (if v < 0 then -(v + 1) else v) (show (n : Int) ≠ 0 by omega)
  omega
theorem around_any (v : Int) (n : Nat) (w : World) (h1 : 1 ≤ n) (hn : n ≤ 1000000) (hv : (Lit.int .i64 v).wf = true) :
    Calls Try.prog 12 #[.int .i64 v, .int .i64 n] w fun e w' => e = .returned (.int .i64 (aroundI v n : Nat)) ∧ w = w' := by
  have hb : -9223372036854775808 ≤ v ∧ v ≤ 9223372036854775807 := by
    simpa [Lit.wf, IntKind.min, IntKind.max, IntKind.signed, IntKind.bits] using hv
  obtain ⟨hb1, hb2⟩ := hb
  have e : ((aroundI v n : Nat) : Int) = (if v < 0 then -(v + 1) else v) % (n : Int) := by
    unfold aroundI
    have := Int.emod_nonneg (if v < 0 then -(v + 1) else v) (show (n : Int) ≠ 0 by omega)
    omega
  rw [e]
  clear e hv
  by_cases h : v < 0
  · rw [if_pos h, ← Int.tmod_eq_emod_of_nonneg (show 0 ≤ -(v + 1) by omega), Int.neg_tmod]
    go_enter Try.func12, Try.ntmps12
    go_wp2
    go_ret
    exact ⟨rfl, rfl⟩
  · rw [if_neg h]
    go_enter Try.func12, Try.ntmps12
    go_wp2
    go_ret
    exact ⟨rfl, rfl⟩
/-- A slice of ints that came in, all of them ints. -/
def Got (w : World) (sv : Value) (xs : List Int) : Prop := Src .i64 w sv xs ∧ xs.length ≤ maxLen ∧ ∀ x ∈ xs, (Lit.int .i64 x).wf = true
set_option maxRecDepth 100000 in
theorem pick_any (sv : Value) (xs : List Int) (i m : Nat) (w : World) (h : Got w sv xs) (hi : i ≤ 1000) (h1 : 1 ≤ m) (hm : m ≤ 1000000) :
    Calls Try.prog 43 #[sv, .int .i64 i, .int .i64 m] w fun e w' => (∃ k : Nat, e = .returned (.int .i64 (k : Int)) ∧ k < m) ∧ w = w' := by
  obtain ⟨hs, hl, hw⟩ := h
  unfold maxLen at hl
  have hi0 : ¬ (i : Int) < 0 := by omega
  rcases hs with ⟨rfl, rfl⟩ | ⟨ad, c, rfl, hc, hcell⟩
  · go_enter Try.func43, Try.ntmps43
    go_wp2
    go_ret
    exact ⟨⟨0, rfl, by omega⟩, rfl⟩
  · obtain ⟨n, hn⟩ : ∃ n, xs.length = n := ⟨_, rfl⟩
    have HN := Lib.hid hn
    rw [hn] at hl hc ⊢
    clear hn
    rcases Nat.lt_or_ge i n with hlt | hge
    · obtain ⟨v, hv⟩ : ∃ v, xs[i]? = some v := ⟨_, List.getElem?_eq_getElem (by rw [HN.out]; exact hlt)⟩
      have hcv := hcell i v hv
      have HA := Lib.hid (fun w' => around_any v m w' h1 hm (hw v (List.mem_of_getElem? hv)))
      clear hcell hw
      go_enter Try.func43, Try.ntmps43
      go_wp2_with fail
      refine (HA.out _).mono ?_
      rintro e w1 ⟨rfl, rfl⟩
      go_wp2
      go_ret
      exact ⟨⟨_, rfl, aroundI_lt _ h1⟩, rfl⟩
    · go_enter Try.func43, Try.ntmps43
      go_wp2
      go_ret
      exact ⟨⟨0, rfl, by omega⟩, rfl⟩
end Go.Proofs.Ytpcliampffeknaa
