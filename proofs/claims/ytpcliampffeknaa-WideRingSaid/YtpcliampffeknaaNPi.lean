/- Contracts: a text of decimal digits, its sign cut. -/
import Derived.Test.YtpcliampffeknaaNPh
import Derived.Test.YtpcliampffeknaaNText
namespace Go.Proofs.Ytpcliampffeknaa
open Go.RowKit
attribute [local go_sem ↓] Go.wp_at_zero Go.wp_at_succ

theorem str_get (l : List UInt8) (j : Nat) (h : j < (ByteArray.mk l.toArray).size) : (ByteArray.mk l.toArray)[j]'h = l[j]'h := rfl
attribute [local go_sem] str_get
theorem by_at {l : List UInt8} {j : Nat} (h : j < l.length) : l.getD j 0 = l[j]'h := by
  rw [List.getD_eq_getElem?_getD, List.getElem?_eq_getElem h]
  rfl
def isDecB (l : List UInt8) : Bool := !l.isEmpty && !(l.getD 0 0 == 48 && decide (1 < l.length)) && l.all (fun c => decide (48 ≤ c.toNat) && decide (c.toNat ≤ 57))
theorem isDecB_true {l : List UInt8} (h0 : 0 < l.length) (h1 : ¬ ((l.getD 0 0).toNat = 48 ∧ 1 < l.length)) (h : IsDig l) : isDecB l = true := by
  have e0 : l.isEmpty = false := by cases l <;> simp_all
  have e1 : (l.getD 0 0 == 48 && decide (1 < l.length)) = false := by
    rw [Bool.and_eq_false_iff]
    by_cases g : (l.getD 0 0).toNat = 48
    · exact .inr (by simpa using fun x => h1 ⟨g, x⟩)
    · refine .inl ?_
      rw [beq_eq_false_iff_ne]
      intro e
      rw [e] at g
      exact g rfl
  have e2 : l.all (fun c => decide (48 ≤ c.toNat) && decide (c.toNat ≤ 57)) = true := by
    rw [List.all_eq_true]
    intro c hc
    have := h c hc
    simp [this.1, this.2]
  rw [isDecB, e0, e1, e2]
  rfl
theorem isDecB_zero {l : List UInt8} (h : (l.getD 0 0).toNat = 48) (h1 : 1 < l.length) : isDecB l = false := by
  have e1 : l.getD 0 0 = 48 := UInt8.toNat_inj.1 h
  rw [isDecB, e1]
  simp [h1]
theorem isDecB_bad {l : List UInt8} {j : Nat} (hj : j < l.length) (h : ¬ (48 ≤ (l.getD j 0).toNat ∧ (l.getD j 0).toNat ≤ 57)) : isDecB l = false := by
  have : l.all (fun c => decide (48 ≤ c.toNat) && decide (c.toNat ≤ 57)) = false := by
    rw [List.all_eq_false]
    refine ⟨l.getD j 0, ?_, by simpa using fun x => Nat.lt_of_not_le fun y => h ⟨x, y⟩⟩
    rw [List.getD_eq_getElem?_getD, List.getElem?_eq_getElem hj]
    exact List.getElem_mem hj
  rw [isDecB, this, Bool.and_false]
theorem isDecB_dig {l : List UInt8} (h : isDecB l = true) : IsDig l ∧ l ≠ [] ∧ (l.length = 1 ∨ l.getD 0 0 ≠ 48) := by
  rw [isDecB, Bool.and_eq_true, Bool.and_eq_true, List.all_eq_true] at h
  obtain ⟨⟨h0, h1⟩, h2⟩ := h
  have hne : l ≠ [] := by rintro rfl; simp at h0
  refine ⟨fun c hc => by simpa using h2 c hc, hne, ?_⟩
  by_cases g : l.getD 0 0 = 48
  · rw [g] at h1
    have : ¬ 1 < l.length := by simpa using h1
    have : 0 < l.length := List.length_pos_iff.2 hne
    exact .inl (by omega)
  · exact .inr g
def RetB1 (b : Bool) (w : World) (e : Ending) (w' : World) : Prop := e = .returned (.bool b) ∧ Below w.heap.size w w'
theorem isDig_step {l : List UInt8} {j : Nat} (h : IsDig (l.take j)) (hj : j < l.length) (h1 : ¬ ((l[j]'hj).toNat : Int) < 48) (h2 : ¬ 57 < ((l[j]'hj).toNat : Int)) : IsDig (l.take (j + 1)) := by
  have e : l.take (j + 1) = l.take j ++ [l[j]'hj] := List.take_succ_eq_append_getElem hj
  rw [e, isDig_append]
  refine ⟨h, fun c hc => ?_⟩
  rw [List.mem_singleton.1 hc]
  omega
set_option maxRecDepth 100000 in
set_option maxHeartbeats 1600000 in
theorem isdec_any (l : List UInt8) (w : World) (hn : l.length ≤ 100000) :
    Calls Try.prog 46 #[.string ⟨l.toArray⟩] w (RetB1 (isDecB l) w) := by
  rcases Nat.eq_zero_or_pos l.length with hz | h0
  · have h1' := List.eq_nil_of_length_eq_zero hz
    subst h1'
    rw [show isDecB [] = false from rfl]
    go_enter Try.func46, Try.ntmps46
    go_wp2_with fail
    go_ret
    exact ⟨rfl, Below.refl _ _⟩
  · have he : l.isEmpty = false := by cases l <;> simp_all
    by_cases hb1 : (l.getD 0 0).toNat = 48 ∧ 1 < l.length
    · rw [isDecB_zero hb1.1 hb1.2]
      have hb2 : ((l[0]'h0).toNat : Int) = 48 := by rw [← by_at h0]; omega
      have hb3 : (1 : Int) < l.length := by omega
      clear hb1
      go_enter Try.func46, Try.ntmps46
      go_wp2_with fail
      go_ret
      exact ⟨rfl, Below.refl _ _⟩
    · have HB1 := Lib.hid hb1
      have key : (((l[0]'h0).toNat : Int) = 48 ∧ ¬ (1 : Int) < l.length) ∨ ¬ ((l[0]'h0).toNat : Int) = 48 := by
        rw [← by_at h0]; omega
      clear hb1
      rcases key with ⟨k1, k2⟩ | k1
      all_goals
        go_enter Try.func46, Try.ntmps46
        go_wp2_with fail
        go_loop [18] (fun i => ∃ j : Nat, j ≤ l.length ∧ i = .int .i64 j ∧ IsDig (l.take j)) (fun i => l.length - (intOf i).toNat)
        case atStart => exact ⟨0, by omega, rfl, by rw [List.take_zero]; intro c hc; simp at hc⟩
        case round =>
          obtain ⟨j, hj, rfl, hd⟩ := hrel
          have HD := Lib.hid hd
          clear hd
          rcases Nat.lt_or_ge j l.length with hlt | hge
          · by_cases hq1 : ((l[j]'hlt).toNat : Int) < 48
            · rw [isDecB_bad hlt (by rw [by_at hlt]; omega)]
              go_wp2_with fail
              go_ret
              exact ⟨rfl, Below.refl _ _⟩
            · by_cases hq2 : 57 < ((l[j]'hlt).toNat : Int)
              · rw [isDecB_bad hlt (by rw [by_at hlt]; omega)]
                go_wp2_with fail
                go_ret
                exact ⟨rfl, Below.refl _ _⟩
              · have HN := Lib.hid (isDig_step HD.out hlt hq1 hq2)
                go_wp2_with fail
                go_round
                · exact ⟨j + 1, by omega, rfl, HN.out⟩
                · simp [intOf]; omega
          · obtain rfl : l.length = j := by omega
            have HT := Lib.hid (isDecB_true h0 HB1.out (by have := HD.out; rwa [List.take_length] at this))
            go_wp2_with fail
            go_ret
            exact ⟨by rw [HT.out]; rfl, Below.refl _ _⟩

/-- The sign and the digits of a text. -/
def cutB (l : List UInt8) : Bool := l.getD 0 0 == 45
def cutL (l : List UInt8) : List UInt8 := if cutB l then l.drop 1 else l
def RetCut (s : List UInt8) (b : Bool) (w : World) (e : Ending) (w' : World) : Prop := e = .returned (.tuple #[.string ⟨s.toArray⟩, .bool b]) ∧ Below w.heap.size w w'
theorem str_cut (l : List UInt8) (i j : Nat) : (ByteArray.mk l.toArray).extract i j = ⟨((l.drop i).take (j - i)).toArray⟩ := by
  rw [ByteArray.extract_mk]
theorem cut_head (c : UInt8) (r : List UInt8) : (((ByteArray.mk (c :: r).toArray).extract 0 1).toList == [45]) = cutB (c :: r) := by
  rw [str_cut, ByteArray.toList_mk, cutB]
  simp
set_option maxRecDepth 100000 in
set_option maxHeartbeats 1600000 in
theorem hasprefix_any (l : List UInt8) (w : World) (hn : l.length ≤ 100000) :
    Calls Try.prog 79 #[.string ⟨l.toArray⟩, .string ⟨#[45]⟩] w (RetB1 (cutB l) w) := by
  rcases l with _ | ⟨c, r⟩
  · rw [show cutB [] = false from rfl]
    go_enter Try.func79, Try.ntmps79
    go_wp2_with fail
    go_ret
    exact ⟨rfl, Below.refl _ _⟩
  · go_enter Try.func79, Try.ntmps79
    go_wp2_with fail
    go_ret
    exact ⟨congrArg (fun b => Ending.returned (.bool b)) (cut_head c r), Below.refl _ _⟩
set_option maxRecDepth 100000 in
set_option maxHeartbeats 1600000 in
theorem cut1_any (l : List UInt8) (w : World) (hn : l.length ≤ 100000) :
    Calls Try.prog 67 #[.string ⟨l.toArray⟩, .string ⟨#[45]⟩] w (RetCut (cutL l) (cutB l) w) := by
  obtain ⟨b, hb⟩ : ∃ b, cutB l = b := ⟨_, rfl⟩
  obtain ⟨S, hS⟩ : ∃ S, cutL l = S := ⟨_, rfl⟩
  have HB := Lib.hid hb
  have HS := Lib.hid hS
  rw [hb, hS]
  clear hb hS
  go_enter Try.func67, Try.ntmps67
  go_wp2_with fail
  refine (hasprefix_any l w hn).mono ?_
  rw [HB.out]
  rintro e w1 ⟨rfl, hb1⟩
  have HB1 := Lib.hid hb1
  clear hb1
  cases b
  · obtain rfl : l = S := by rw [← HS.out, cutL, HB.out]; rfl
    go_wp2_with fail
    go_ret2
    exact ⟨rfl, HB1.out⟩
  · obtain rfl : l.drop 1 = S := by rw [← HS.out, cutL, HB.out]; rfl
    have hlen : (1 : Int) ≤ l.length := by
      rcases l with _ | ⟨c, r⟩
      · exact absurd HB.out (by decide)
      · rw [List.length_cons]; omega
    go_wp2_with fail
    go_ret2
    refine ⟨?_, HB1.out⟩
    have e1 := str_cut l 1 l.length
    rw [List.take_of_length_le (by simp)] at e1
    exact congrArg (fun s => Ending.returned (.tuple #[.string s, .bool true])) e1
set_option maxRecDepth 100000 in
set_option maxHeartbeats 1600000 in
theorem cut_any (l : List UInt8) (w : World) (hn : l.length ≤ 100000) :
    Calls Try.prog 45 #[.string ⟨l.toArray⟩, .string ⟨#[45]⟩] w (RetCut (cutL l) (cutB l) w) := by
  obtain ⟨s, hs⟩ : ∃ s, cutL l = s := ⟨_, rfl⟩
  have HC := Lib.hid (cut1_any l w hn)
  rw [hs] at HC ⊢
  go_enter Try.func45, Try.ntmps45
  go_wp2_with fail
  refine HC.out.mono ?_
  rintro e w1 ⟨rfl, hb1⟩
  have HB1 := Lib.hid hb1
  clear hb1
  go_wp2_with fail
  go_ret2
  exact ⟨rfl, HB1.out⟩
end Go.Proofs.Ytpcliampffeknaa
