/- The contract of Reverse over the bytes of a row of one's own. -/
import Derived.Test.YtpcliampffeknaaNPj
namespace Go.Proofs.Ytpcliampffeknaa
open Go.RowKit
attribute [local go_sem ↓] Go.wp_at_zero Go.wp_at_succ

theorem own_len {w : World} {base n : Nat} {e : TypeId} {v : Value} {k : IntKind} {ys : List Int} (h : w.ownsRow base e 1 v n (vs k ys)) : ys.length = n := by
  have := h.1
  rw [vs_length] at this
  omega
theorem vs_setI (k : IntKind) (xs : List Int) (i : Nat) (v : Int) : (vs k xs).set i (.int k v) = vs k (xs.set i v) := by simp [vs, List.map_set]
/-- The first k and the last k of a list have changed places. -/
def Swp (L : List Int) (k : Nat) (ys : List Int) : Prop := ys.length = L.length ∧ ∀ i, i < L.length → ys.getD i 0 = if i < k ∨ L.length ≤ i + k then L.getD (L.length - 1 - i) 0 else L.getD i 0
theorem Swp.start (L : List Int) : Swp L 0 L := ⟨rfl, fun i hi => by rw [if_neg (by omega)]⟩
theorem Swp.next {L ys : List Int} {k j : Nat} (h : Swp L k ys) (hj : L.length = k + j + 1) (hkj : k < j) : Swp L (k + 1) ((ys.set k (ys.getD j 0)).set j (ys.getD k 0)) := by
  obtain ⟨h1, h2⟩ := h
  refine ⟨by simpa using h1, fun i hi => ?_⟩
  have hk := h2 k (by omega)
  have hjj := h2 j (by omega)
  rw [if_neg (by omega)] at hk hjj
  rw [List.getD_eq_getElem?_getD, List.getElem?_set, List.getElem?_set]
  by_cases e1 : j = i
  · subst e1
    rw [if_pos rfl, if_pos (by simp; omega), Option.getD_some, if_pos (by omega), hk, show L.length - 1 - j = k by omega]
  · rw [if_neg e1]
    by_cases e2 : k = i
    · subst e2
      rw [if_pos rfl, if_pos (by omega), Option.getD_some, if_pos (by omega), hjj, show L.length - 1 - k = j by omega]
    · rw [if_neg e2, ← List.getD_eq_getElem?_getD, h2 i hi]
      by_cases e3 : i < k ∨ L.length ≤ i + k
      · rw [if_pos e3, if_pos (by omega)]
      · rw [if_neg e3, if_neg (by omega)]
theorem Swp.done {L ys : List Int} {k : Nat} (h : Swp L k ys) (hk : L.length ≤ k + k + 1) : ys = L.reverse := by
  obtain ⟨h1, h2⟩ := h
  refine List.ext_getElem (by simpa using h1) fun i hi hi' => ?_
  have h3 := h2 i (by omega)
  rw [List.getD_eq_getElem?_getD, List.getElem?_eq_getElem hi, Option.getD_some] at h3
  rw [List.getElem_reverse, h3]
  split
  · rw [List.getD_eq_getElem?_getD, List.getElem?_eq_getElem (by omega), Option.getD_some]
  · rename_i hne
    have hl : i < L.length := by omega
    rw [List.getD_eq_getElem?_getD, List.getElem?_eq_getElem hl, Option.getD_some]
    congr 1
    omega
set_option maxRecDepth 100000 in
set_option maxHeartbeats 1600000 in
theorem reverse_any (L : List Int) (base G n c : Nat) (w : World) (h : w.ownsRow base 5 1 (.slice (some ⟨G, 0, none⟩) n c) n (vs .u8 L)) (hn : n ≤ 2000000) :
    Calls Try.prog 54 #[.slice (some ⟨G, 0, none⟩) n c] w fun e w' => e = .returned (.tuple #[]) ∧ w'.ownsRow base 5 1 (.slice (some ⟨G, 0, none⟩) n c) n (vs .u8 L.reverse) ∧ Kp (· = G) w w' := by
  have HO := Lib.hid h
  have HL := Lib.hid (own_len h)
  clear h
  go_enter Try.func54, Try.ntmps54
  go_wp2_with fail
  go_loopw [2, 3] (fun i j wr => ∃ (k : Nat) (ys : List Int), k ≤ n ∧ k ≤ (n : Int) - k ∧ i = .int .i64 k ∧ j = .int .i64 ((n : Int) - 1 - k) ∧ Swp L k ys ∧ wr.ownsRow base 5 1 (.slice (some ⟨G, 0, none⟩) n c) n (vs .u8 ys) ∧ Kp (· = G) w wr) (fun i _ _ => n - (intOf i).toNat)
  case atStart => exact ⟨0, L, by omega, by omega, rfl, by go_num, Swp.start L, HO.out, Kp.refl _ _⟩
  case round =>
    obtain ⟨k, ys, hk, hk2, rfl, rfl, hsw, hown, hkp⟩ := hrel
    have HSW := Lib.hid hsw
    have HW := Lib.hid hown
    have HKP := Lib.hid hkp
    clear hsw hown hkp
    by_cases hlt : (k : Int) < (n : Int) - 1 - k
    · obtain ⟨z, hz⟩ : ∃ z : Int, (n : Int) - 1 - k = z := ⟨_, rfl⟩
      rw [hz] at hlt ⊢
      obtain ⟨j, rfl⟩ : ∃ j : Nat, z = (j : Int) := ⟨z.toNat, by omega⟩
      have HJ := Lib.hid (show n = k + j + 1 by omega)
      have hkj : k < j := by omega
      have hjn : j < n := by omega
      have hkn : k < n := by omega
      clear hz
      have HYL := Lib.hid (own_len HW.out)
      have hck : wr.cell? ⟨G, k, none⟩ = some (.int .u8 (ys.getD k 0)) := by
        rw [HW.out.cellAt k (by omega)]
        exact vs_get (by rw [List.getD_eq_getElem?_getD, List.getElem?_eq_getElem (by rw [HYL.out]; exact hkn)]; rfl)
      have hcj : wr.cell? ⟨G, j, none⟩ = some (.int .u8 (ys.getD j 0)) := by
        rw [HW.out.cellAt j (by omega)]
        exact vs_get (by rw [List.getD_eq_getElem?_getD, List.getElem?_eq_getElem (by rw [HYL.out]; exact hjn)]; rfl)
      have hfk := HW.out.frozenAt k
      have hfj := HW.out.frozenAt j
      have HNX := Lib.hid (HSW.out.next (j := j) (by have := HL.out; have := HJ.out; omega) hkj)
      generalize ys.getD k 0 = X at hck HNX
      generalize ys.getD j 0 = Y at hcj HNX
      have hst := ((HW.out.stored k (.int .u8 Y)).1.stored j (.int .u8 X)).1
      rw [vs_setI, vs_setI] at hst
      have HST := Lib.hid hst
      have HKS := Lib.hid ((HKP.out.setCell (p := ⟨G, k, none⟩) (fun _ => rfl) (.int .u8 Y)).setCell (p := ⟨G, j, none⟩) (fun _ => rfl) (.int .u8 X))
      clear hst
      go_wp2_with fail
      go_region
      go_wp2
      go_roundw
      case rel => exact ⟨k + 1, _, by omega, by have := HJ.out; omega, by go_num, by have := HJ.out; go_num, HNX.out, HST.out, HKS.out.drew⟩
      case measure => simp [intOf]; omega
    · have HDN := Lib.hid (HSW.out.done (by have := HL.out; omega))
      go_wp2_with fail
      go_end0
      exact ⟨rfl, by rw [← HDN.out]; exact HW.out, HKP.out⟩
end Go.Proofs.Ytpcliampffeknaa
