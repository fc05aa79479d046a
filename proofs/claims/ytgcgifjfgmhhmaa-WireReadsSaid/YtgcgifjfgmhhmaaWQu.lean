/- The contract of the reference reader's Uint. -/
import Derived.Test.YtgcgifjfgmhhmaaWLaw7
namespace Go.Proofs.Ytgcgifjfgmhhmaa
open Go.RowKit

/-- The reader with an error stored. -/
theorem Rdr.err1 {T : TypeId} {w : World} {g : Nat} {ok : Nat → Prop} {s : St} (h : Rdr T w g ok s) (k : Nat) (hk : k ≠ 0) (l : List UInt8) : Rdr T (w.setCell ⟨g, 1, none⟩ (.int .i64 k)) g ok ⟨l, k⟩ ∧ Own1 g w (w.setCell ⟨g, 1, none⟩ (.int .i64 k)) := by
  obtain ⟨a, n, c, l', hr, hi, hl, hn, ho⟩ := h
  have hkp : Own1 g w (w.setCell ⟨g, 1, none⟩ (.int .i64 k)) := (Kp.refl (· = g) w).setCell (p := ⟨g, 1, none⟩) (fun _ => rfl) _
  exact ⟨⟨a, n, c, l', hr.set1 _, hi.kp hkp (fun b _ hb e => ho (e ▸ hb)), fun h => absurd h hk, hn, ho⟩, hkp⟩
/-- The reader with its slice stored anew. -/
theorem Rdr.left0 {T : TypeId} {w : World} {g : Nat} {ok : Nat → Prop} {sv a' : Value} {r : List UInt8} (h : R2 w g T sv 0) (hi : In .u8 w ok a' (bI r)) (hn : r.length ≤ 100000) (ho : ¬ ok g) : Rdr T (w.setCell ⟨g, 0, none⟩ a') g ok ⟨r, 0⟩ ∧ Own1 g w (w.setCell ⟨g, 0, none⟩ a') := by
  have hkp : Own1 g w (w.setCell ⟨g, 0, none⟩ a') := (Kp.refl (· = g) w).setCell (p := ⟨g, 0, none⟩) (fun _ => rfl) _
  obtain ⟨a, c, rfl⟩ := hi.form
  exact ⟨⟨a, _, c, r, h.set0 _, hi.kp hkp (fun b _ hb e => ho (e ▸ hb)), fun _ => rfl, hn, ho⟩, hkp⟩
set_option maxHeartbeats 800000 in
theorem rruint_err (g : Nat) (ok : Nat → Prop) (s : St) (w : World) (h : Rdr 47 w g ok s) (he : s.e ≠ 0) :
    Calls Try.prog 49 #[.pointer (some ⟨g, 0, none⟩)] w fun e w' => e = .returned (.int .u64 0) ∧ Rdr 47 w' g ok s ∧ Own1 g w w' := by
  have HR := Lib.hid h
  have hc1 := h.e_cell
  have hne : ((s.e : Int) == 0) = false := beq_eq_false_iff_ne.2 (by omega)
  clear h he
  go_enter Try.func49, Try.ntmps49
  go_wp2
  go_loopw [5] (fun at_ wr => at_ = .int .i64 0 ∧ w = wr) (fun _ _ => 0)
  case atStart => exact ⟨rfl, rfl⟩
  case round =>
    obtain ⟨rfl, rfl⟩ := hrel
    go_wp2
    go_ret
    exact ⟨rfl, HR.out, Kp.refl _ _⟩
theorem add_step (acc c U i : Nat) (x : Int) (hx : (c : Int) = x) (hU : U = 128 ^ i) (h : acc < 128 ^ i) (hi : i < 9) : IntKind.u64.wrap ((acc : Int) + IntKind.u64.wrap (x % 128 * (U : Int))) = ((acc + c % 128 * 128 ^ i : Nat) : Int) := by
  subst hx
  have hb := acc_bd (c := c) h
  have hp : 128 ^ (i + 1) ≤ 128 ^ 9 := Nat.pow_le_pow_right (by omega) (by omega)
  rw [p128_9] at hp
  rw [← hU] at hb ⊢
  have e : (c : Int) % 128 * (U : Int) = ((c % 128 * U : Nat) : Int) := by push_cast; rfl
  rw [e]
  generalize c % 128 * U = m at hb ⊢
  rw [IntWalk.u64_in (m : Int) (by omega), IntWalk.u64_in ((acc : Int) + m) (by omega)]
  push_cast
  rfl
theorem add_step9 (acc U : Nat) (hU : U = 128 ^ 9) (h : acc < 128 ^ 9) : IntKind.u64.wrap ((acc : Int) + IntKind.u64.wrap (U : Int)) = ((acc + 1 * 128 ^ 9 : Nat) : Int) := by
  rw [p128_9] at hU h
  rw [IntWalk.u64_in (U : Int) (by omega), IntWalk.u64_in ((acc : Int) + U) (by omega), p128_9]
  omega
theorem unit_step (U i : Nat) (hU : U = 128 ^ i) (hi : i < 9) : IntKind.u64.wrap ((U : Int) * 128) = ((128 ^ (i + 1) : Nat) : Int) := by
  have hp : 128 ^ (i + 1) ≤ 128 ^ 9 := Nat.pow_le_pow_right (by omega) (by omega)
  rw [p128_9, Nat.pow_succ, ← hU] at hp
  rw [IntWalk.u64_in _ (by omega), Nat.pow_succ, ← hU]
  push_cast
  rfl
theorem drop_at {l r : List UInt8} {c : UInt8} {i : Nat} (h : l.drop i = c :: r) : l[i]? = some c ∧ l.drop (i + 1) = r ∧ i < l.length := by
  have h1 : l[i]? = some c := by
    have := congrArg (·[0]?) h
    simpa [List.getElem?_drop] using this
  refine ⟨h1, ?_, (List.getElem?_eq_some_iff.1 h1).1⟩
  have := congrArg (List.drop 1) h
  simpa [List.drop_drop, Nat.add_comm] using this
set_option maxHeartbeats 3200000 in
theorem rruint_ok (g : Nat) (ok : Nat → Prop) (l : List UInt8) (a : Option Addr) (n c : Nat) (w : World) (hr : R2 w g 47 (.slice a n c) 0) (hi : In .u8 w ok (.slice a n c) (bI l)) (hn : l.length ≤ 100000) (ho : ¬ ok g) :
    Calls Try.prog 49 #[.pointer (some ⟨g, 0, none⟩)] w fun e w' => e = .returned (.int .u64 (scan 0 0 l).1) ∧ Rdr 47 w' g ok (scan 0 0 l).2 ∧ Own1 g w w' := by
  have hc0 := hr.cell0
  have hc1 := hr.cell1
  have hf0 := hr.fr0
  have hf1 := hr.fr1
  have hnl := hi.len.1
  rw [bI_len] at hnl
  have hn9 : n ≤ 100000 := by omega
  have HRD := Lib.hid (show Rdr 47 w g ok ⟨l, 0⟩ from ⟨a, n, c, l, hr, hi, fun _ => rfl, hn, ho⟩)
  have HR2 := Lib.hid hr
  have HI := Lib.hid hi
  have HN := Lib.hid hn
  have HNL := Lib.hid hnl
  have HO := Lib.hid ho
  clear hr hi hn ho hnl
  go_enter Try.func49, Try.ntmps49
  go_wp2
  go_loopw [3, 4, 5] (fun v u at_ wr => ∃ (i acc U : Nat) (r : List UInt8), i ≤ 9 ∧ i ≤ n ∧ at_ = .int .i64 i ∧ v = .int .u64 acc ∧ u = .int .u64 U ∧ U = 128 ^ i ∧ acc < 128 ^ i ∧ scan i acc r = scan 0 0 l ∧ l.drop i = r ∧ wr = w) (fun _ _ at_ _ => 10 - (intOf at_).toNat)
  case atStart => exact ⟨0, 0, 1, l, by omega, by omega, rfl, rfl, rfl, rfl, by decide, rfl, rfl, rfl⟩
  case round =>
    obtain ⟨i, acc, U, r, hi9, hin, rfl, rfl, rfl, hU, hacc, hsc, hdr, rfl⟩ := hrel
    have HS := Lib.hid hsc
    have HA := Lib.hid hacc
    have HD := Lib.hid hdr
    have HU := Lib.hid hU
    clear hsc hacc hdr hU
    cases r with
    | nil =>
      have HS2 := Lib.hid (show scan 0 0 l = (0, ⟨[], 3⟩) from HS.out.symm)
      obtain rfl : n = i := by
        have := congrArg List.length HD.out
        rw [List.length_drop] at this
        have := HNL.out
        simp at *
        omega
      go_wp2
      go_ret
      rw [HS2.out]
      obtain ⟨h1, h2⟩ := HRD.out.err1 3 (by decide) []
      exact ⟨rfl, h1, h2⟩
    | cons x0 r =>
      obtain ⟨hx0, hd1, hil⟩ := drop_at HD.out
      have hlt : i < n := by rw [HNL.out]; exact hil
      obtain ⟨b, off, rfl, hb1, hb2, hcell⟩ := HI.out.at_ (j := i) (by rw [bI_len]; exact hil)
      have hgd : (bI l).getD i 0 = (x0.toNat : Int) := by
        rw [List.getD_eq_getElem?_getD, bI, List.getElem?_map, hx0]
        rfl
      rw [hgd] at hcell
      have hcl := x0.toNat_lt
      obtain ⟨x, hx⟩ : ∃ x : Int, (x0.toNat : Int) = x := ⟨_, rfl⟩
      rw [hx] at hcell
      have hx1 : 0 ≤ x := by omega
      have hx2 : x < 256 := by omega
      have HX := Lib.hid hx
      have HL2 := Lib.hid (show r.length ≤ 100000 by rw [← hd1, List.length_drop]; have := HN.out; omega)
      clear hx0 hd1 hil hb1 hb2 hgd hcl hx
      have HD2 := Lib.hid (drop_at HD.out).2.1
      by_cases h9' : i = 9
      · subst h9'
        by_cases hb : 1 < x
        · have HS2 := Lib.hid (show scan 0 0 l = (0, ⟨r, 2⟩) by rw [← HS.out, scan, if_pos (.inl ⟨rfl, by have := HX.out; omega⟩)])
          skip
          go_wp2
          go_ret
          rw [HS2.out]
          obtain ⟨h1, h2⟩ := HRD.out.err1 2 (by decide) r
          exact ⟨rfl, h1, h2⟩
        · by_cases hz : x = 0
          · subst hz
            have HS2 := Lib.hid (show scan 0 0 l = (0, ⟨r, 2⟩) by rw [← HS.out, scan, if_pos (.inr ⟨by omega, by have := HX.out; omega⟩)])
            skip
            go_wp2
            go_ret
            rw [HS2.out]
            obtain ⟨h1, h2⟩ := HRD.out.err1 2 (by decide) r
            exact ⟨rfl, h1, h2⟩
          · obtain rfl : x = 1 := by omega
            have HS2 := Lib.hid (show scan 0 0 l = (acc + x0.toNat * 128 ^ 9, ⟨r, 0⟩) by rw [← HS.out, scan, if_neg (by have := HX.out; omega), if_pos (by have := HX.out; omega)])
            obtain ⟨a', c', hsl, hi'⟩ := HI.out.from_ (P := Try.prog) (ty := 24) Try.underlying24 size_byte (9 + 1) (by omega) 10 (by omega)
            rw [bI, ← List.map_drop, HD2.out, ← bI] at hi'
            have HI2 := Lib.hid hi'
            clear hi'
            go_wp2
            go_ret
            rw [HS2.out]
            obtain ⟨h1, h2⟩ := Rdr.left0 HR2.out HI2.out HL2.out HO.out
            exact ⟨ret_i ((add_step9 acc U HU.out HA.out).trans (by rw [show x0.toNat = 1 by have := HX.out; omega])), h1, h2⟩
      · have h9 : ((i : Int) == 9) = false := beq_eq_false_iff_ne.2 (by omega)
        by_cases h0 : 0 < i
        · by_cases hz : x = 0
          · subst hz
            have HS2 := Lib.hid (show scan 0 0 l = (0, ⟨r, 2⟩) by rw [← HS.out, scan, if_pos (.inr ⟨h0, by have := HX.out; omega⟩)])
            skip
            go_wp2
            go_ret
            rw [HS2.out]
            obtain ⟨h1, h2⟩ := HRD.out.err1 2 (by decide) r
            exact ⟨rfl, h1, h2⟩
          · have hx3 : (x == 0) = false := beq_eq_false_iff_ne.2 hz
            by_cases h128 : x < 128
            · have HS2 := Lib.hid (show scan 0 0 l = (acc + x0.toNat * 128 ^ i, ⟨r, 0⟩) by rw [← HS.out, scan, if_neg (by have := HX.out; omega), if_pos (by have := HX.out; omega)])
              obtain ⟨a', c', hsl, hi'⟩ := HI.out.from_ (P := Try.prog) (ty := 24) Try.underlying24 size_byte (i + 1) (by omega) ((i : Int) + 1) (by omega)
              rw [bI, ← List.map_drop, HD2.out, ← bI] at hi'
              have HI2 := Lib.hid hi'
              clear hi'
              go_wp2
              go_ret
              rw [HS2.out]
              obtain ⟨h1, h2⟩ := Rdr.left0 HR2.out HI2.out HL2.out HO.out
              exact ⟨ret_i ((add_step acc x0.toNat U i x HX.out HU.out HA.out (by omega)).trans (by rw [Nat.mod_eq_of_lt (show x0.toNat < 128 by have := HX.out; omega)])), h1, h2⟩
            · have HS2 := Lib.hid (show scan (i + 1) (acc + x0.toNat % 128 * 128 ^ i) r = scan 0 0 l by rw [← HS.out, scan, if_neg (by have := HX.out; omega), if_neg (by have := HX.out; omega)])
              skip
              go_wp2
              go_roundw
              case rel => exact ⟨i + 1, acc + x0.toNat % 128 * 128 ^ i, 128 ^ (i + 1), r, by omega, by omega, by go_num, congrArg _ (add_step acc x0.toNat U i x HX.out HU.out HA.out (by omega)), congrArg _ (unit_step U i HU.out (by omega)), rfl, acc_bd HA.out, HS2.out, HD2.out, by first | rfl | trivial⟩
              case measure => simp [intOf]; omega
        · obtain rfl : i = 0 := by omega
          rw [Nat.add_zero] at hcell
          by_cases h128 : x < 128
          · have HS2 := Lib.hid (show scan 0 0 l = (acc + x0.toNat * 128 ^ 0, ⟨r, 0⟩) by rw [← HS.out, scan, if_neg (by omega), if_pos (by have := HX.out; omega)])
            obtain ⟨a', c', hsl, hi'⟩ := HI.out.from_ (P := Try.prog) (ty := 24) Try.underlying24 size_byte (0 + 1) (by omega) 1 (by omega)
            rw [bI, ← List.map_drop, HD2.out, ← bI] at hi'
            have HI2 := Lib.hid hi'
            clear hi'
            go_wp2
            go_ret
            rw [HS2.out]
            obtain ⟨h1, h2⟩ := Rdr.left0 HR2.out HI2.out HL2.out HO.out
            exact ⟨ret_i ((add_step acc x0.toNat U 0 x HX.out HU.out HA.out (by omega)).trans (by rw [Nat.mod_eq_of_lt (show x0.toNat < 128 by have := HX.out; omega)])), h1, h2⟩
          · have HS2 := Lib.hid (show scan (0 + 1) (acc + x0.toNat % 128 * 128 ^ 0) r = scan 0 0 l by rw [← HS.out, scan, if_neg (by omega), if_neg (by have := HX.out; omega)])
            skip
            go_wp2
            go_roundw
            case rel => exact ⟨0 + 1, acc + x0.toNat % 128 * 128 ^ 0, 128 ^ (0 + 1), r, by omega, by omega, by go_num, congrArg _ (add_step acc x0.toNat U 0 x HX.out HU.out HA.out (by omega)), congrArg _ (unit_step U 0 HU.out (by omega)), rfl, acc_bd HA.out, HS2.out, HD2.out, by first | rfl | trivial⟩
            case measure => simp [intOf]
theorem rruint_any (g : Nat) (ok : Nat → Prop) (s : St) (w : World) (h : Rdr 47 w g ok s) :
    Calls Try.prog 49 #[.pointer (some ⟨g, 0, none⟩)] w fun e w' => e = .returned (.int .u64 (uintS s).1) ∧ Rdr 47 w' g ok (uintS s).2 ∧ Own1 g w w' := by
  by_cases he : s.e = 0
  · obtain ⟨l, e⟩ := s
    dsimp only at he
    subst he
    rw [uintS, if_neg (by simp)]
    obtain ⟨a, n, c, l', hr, hi, hl, hn, ho⟩ := h
    obtain rfl := hl rfl
    exact rruint_ok g ok _ a n c w hr hi hn ho
  · rw [uintS_err he]
    exact rruint_err g ok s w h he
end Go.Proofs.Ytgcgifjfgmhhmaa
