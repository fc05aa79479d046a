/- The contract of the guess of a quotient's digit. -/
import Derived.Test.YtpcliampffeknaaNP9
import Derived.Test.YtpcliampffeknaaMDiv
namespace Go.Proofs.Ytpcliampffeknaa
open Go.RowKit
attribute [local go_sem ↓] Go.wp_at_zero Go.wp_at_succ

set_option maxRecDepth 100000 in
set_option maxHeartbeats 1600000 in
theorem guess_any (pl bl : List Nat) (A A' : Option Addr) (m c c' : Nat) (w : World) (hdp : Dig 4294967296 pl) (hdb : Dig 4294967296 bl) (hx : LI .u32 w (.slice A (m + 2) c) pl) (hy : LI .u32 w (.slice A' (m + 1) c') bl) (hm : m ≤ 900000) (ht : 0 < bl.getD m 0) :
    Calls Try.prog 72 #[.slice A (m + 2) c, .slice A' (m + 1) c'] w fun e w' => (∃ g : Nat, e = .returned (.int .u32 (g : Int)) ∧ g < 4294967296 ∧ ∀ q, q < 4294967296 → q * val 4294967296 bl ≤ val 4294967296 pl → q ≤ g) ∧ Below w.heap.size w w' := by
  have HG := Lib.hid (fun q => guess_ge (B := 4294967296) (m := m) (q := q) (by decide) hdp hx.len.1 hy.len.1 ht)
  obtain ⟨b1, o1, rfl, hb1, hc0⟩ := hx.at_ (j := m) (by omega)
  obtain ⟨b1', o1', he, _, hc1⟩ := hx.at_ (j := m + 1) (by omega)
  injection he with he
  injection he with he1 he2
  subst he1 he2
  obtain ⟨b2, o2, rfl, hb2, hc2⟩ := hy.at_ (j := m) (by omega)
  have d0 := dig_getD (B := 4294967296) (by decide) hdp m
  have d1 := dig_getD (B := 4294967296) (by decide) hdp (m + 1)
  have d2 := dig_getD (B := 4294967296) (by decide) hdb m
  clear hx hy hdp hdb
  generalize pl.getD m 0 = x at hc0 d0 HG
  generalize pl.getD (m + 1) 0 = y at hc1 d1 HG
  generalize bl.getD m 0 = t at hc2 d2 ht HG
  have ho := or_hi y x d1 d0
  obtain ⟨h, hh⟩ : ∃ h, x + 4294967296 * y = h := ⟨_, rfl⟩
  rw [hh] at ho HG
  obtain ⟨q, hq⟩ : ∃ q, h / t = q := ⟨_, rfl⟩
  rw [hq] at HG
  have hhl : h < 18446744073709551616 := by omega
  have hql : q ≤ h := by rw [← hq]; exact Nat.div_le_self _ _
  obtain ⟨X, hX⟩ : ∃ X : Int, (x : Int) = X := ⟨_, rfl⟩
  obtain ⟨Y, hY⟩ : ∃ X : Int, (y : Int) = X := ⟨_, rfl⟩
  obtain ⟨T, hT⟩ : ∃ X : Int, (t : Int) = X := ⟨_, rfl⟩
  obtain ⟨P, hP⟩ : ∃ X : Int, (h : Int) = X := ⟨_, rfl⟩
  obtain ⟨Q, hQ⟩ : ∃ X : Int, (q : Int) = X := ⟨_, rfl⟩
  have e1 : P / T = Q := by rw [← hP, ← hT, ← hQ, ← hq]; rfl
  rw [hX, hY, hP] at ho
  rw [hX] at hc0
  rw [hY] at hc1
  rw [hT] at hc2
  have hX1 : 0 ≤ X := by omega
  have hX2 : X < 4294967296 := by omega
  have hY1 : 0 ≤ Y := by omega
  have hY2 : Y < 4294967296 := by omega
  have hT1 : 1 ≤ T := by omega
  have hT2 : T < 4294967296 := by omega
  have hP1 : 0 ≤ P := by omega
  have hP2 : P < 18446744073709551616 := by omega
  have hQ1 : 0 ≤ Q := by omega
  have hQ2 : Q < 18446744073709551616 := by omega
  have HQ := Lib.hid hQ
  clear hX hY hT hP hQ hq hh hhl hql d0 d1 d2 ht
  have s1 : IntKind.i64.wrap ((m : Int) + 1 - 1) = (m : Int) := by rw [show (m : Int) + 1 - 1 = m by omega]; exact IntWalk.i64_in _ (by omega)
  have s2 : ((m : Int) + 1).toNat = m + 1 := by omega
  have s3 : (0 : Int) ≤ (m : Int) := by omega
  have s4 : IntKind.u64.wrap (Y * 4294967296) = Y * 4294967296 := by rw [wu64]; omega
  by_cases hle : Q ≤ 4294967295
  · go_enter Try.func72, Try.ntmps72
    go_wp2
    go_quiet (fail)
    go_wp2
    go_ret
    exact ⟨⟨q, ret_int HQ.out.symm, by have := HQ.out; omega, fun q' _ h => HG.out q' h⟩, ⟨rfl, rfl, rfl, Nat.le_refl _, fun _ _ => rfl⟩⟩
  · have hgt : 4294967295 < Q := by omega
    go_enter Try.func72, Try.ntmps72
    go_wp2
    go_quiet (fail)
    go_wp2
    go_ret
    exact ⟨⟨4294967295, rfl, by decide, fun q' h _ => by omega⟩, ⟨rfl, rfl, rfl, Nat.le_refl _, fun _ _ => rfl⟩⟩
end Go.Proofs.Ytpcliampffeknaa
