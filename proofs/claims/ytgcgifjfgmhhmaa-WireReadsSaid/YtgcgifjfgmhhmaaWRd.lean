/- A reader in memory, and the contracts of the program's fail, next, Uint, Int, Bool, length, part, End. -/
import Derived.Test.YtgcgifjfgmhhmaaWVal
import Derived.BigQuiet
import Derived.Deep.QuietTactic
namespace Go.Proofs.Ytgcgifjfgmhhmaa
open Go.RowKit

/-- A block of two cells, the second an integer. -/
def R2 (w : World) (g : Nat) (T : TypeId) (sv : Value) (e : Int) : Prop := w.heap[g]? = some (.cells #[sv, .int .i64 e] T (0, 0))
section
variable {w w' : World} {g : Nat} {T : TypeId} {sv : Value} {e : Int}
theorem R2.lt (h : R2 w g T sv e) : g < w.heap.size := (Array.getElem?_eq_some_iff.1 h).1
theorem R2.cell0 (h : R2 w g T sv e) : w.cell? ⟨g, 0, none⟩ = some sv := by simp [World.cell?, show w.heap[g]? = _ from h]
theorem R2.cell1 (h : R2 w g T sv e) : w.cell? ⟨g, 1, none⟩ = some (.int .i64 e) := by simp [World.cell?, show w.heap[g]? = _ from h]
theorem R2.fr0 (h : R2 w g T sv e) : w.frozen? ⟨g, 0, none⟩ = false := by simp [World.frozen?, show w.heap[g]? = _ from h]
theorem R2.fr1 (h : R2 w g T sv e) : w.frozen? ⟨g, 1, none⟩ = false := by simp [World.frozen?, show w.heap[g]? = _ from h]
theorem R2.kp {t : Nat → Prop} (h : R2 w g T sv e) (hk : Kp t w w') (ht : ¬ t g) : R2 w' g T sv e := (hk.block g h.lt ht).trans h
theorem R2.set0 (h : R2 w g T sv e) (u : Value) : R2 (w.setCell ⟨g, 0, none⟩ u) g T u e := by
  unfold R2 at h ⊢
  simp [World.setCell, Array.getElem?_modify, h]
theorem R2.set1 (h : R2 w g T sv e) (k : Int) : R2 (w.setCell ⟨g, 1, none⟩ (.int .i64 k)) g T sv k := by
  unfold R2 at h ⊢
  simp [World.setCell, Array.getElem?_modify, h]
end
/-- A reader at block g in the state s; what it has left lies in blocks of the kind ok. -/
def Rdr (T : TypeId) (w : World) (g : Nat) (ok : Nat → Prop) (s : St) : Prop :=
  ∃ a n c l, R2 w g T (.slice a n c) s.e ∧ In .u8 w ok (.slice a n c) (bI l) ∧ (s.e = 0 → l = s.l) ∧ l.length ≤ 100000 ∧ ¬ ok g
section
variable {T : TypeId} {w w' : World} {g : Nat} {ok ok' t : Nat → Prop} {s : St}
theorem Rdr.kp (h : Rdr T w g ok s) (hk : Kp t w w') (h1 : ¬ t g) (h2 : ∀ b, b < w.heap.size → ok b → ¬ t b) : Rdr T w' g ok s := by
  obtain ⟨a, n, c, l, hr, hi, hl, hn, ho⟩ := h
  exact ⟨a, n, c, l, hr.kp hk h1, hi.kp hk h2, hl, hn, ho⟩
theorem Rdr.new (h : Rdr T w g ok s) (hb : Below w.heap.size w w') : Rdr T w' g ok s := h.kp (t := fun _ => False) (Kp.new hb) (fun e => e) fun _ _ _ e => e
theorem Rdr.lt (h : Rdr T w g ok s) : g < w.heap.size := by
  obtain ⟨a, n, c, l, hr, _⟩ := h
  exact hr.lt
theorem Rdr.mono (h : Rdr T w g ok s) (ho : ∀ b, b < w.heap.size → ok b → ok' b) (hg : ¬ ok' g) : Rdr T w g ok' s := by
  obtain ⟨a, n, c, l, hr, hi, hl, hn, _⟩ := h
  exact ⟨a, n, c, l, hr, hi.mono ho, hl, hn, hg⟩
end
/-- The reader's block and new memory alone. -/
abbrev Own1 (g : Nat) (w w' : World) : Prop := Kp (· = g) w w'

def failS (s : St) (k : Nat) : St := if s.e = 0 then ⟨s.l, k⟩ else s
set_option maxHeartbeats 800000 in
theorem fail_any (k : Nat) (g : Nat) (ok : Nat → Prop) (s : St) (w : World) (h : Rdr 77 w g ok s) (hk : k ≠ 0) :
    Calls Try.prog 60 #[.pointer (some ⟨g, 0, none⟩), .int .i64 k] w fun e w' => e = .returned (.tuple #[]) ∧ Rdr 77 w' g ok (failS s k) ∧ Own1 g w w' := by
  obtain ⟨a, n, c, l, hr, hi, hl, hn, ho⟩ := h
  have hc1 := hr.cell1
  have hf1 := hr.fr1
  by_cases he : s.e = 0
  · have HK := Lib.hid hk
    have HS := Lib.hid (show failS s k = ⟨s.l, k⟩ by rw [failS, if_pos he])
    have HL := Lib.hid (hl he)
    have HE := Lib.hid he
    rw [he] at hc1
    have HR := Lib.hid hr
    have HI := Lib.hid hi
    clear hk hl he hr hi
    go_enter Try.func60, Try.ntmps60
    go_wp2
    go_end0
    have hkp : Own1 g w (w.setCell ⟨g, 1, none⟩ (.int .i64 k)) := (Kp.refl (· = g) w).setCell (p := ⟨g, 1, none⟩) (fun _ => rfl) _
    refine ⟨rfl, ?_, hkp⟩
    rw [HS.out]
    exact ⟨a, n, c, l, HR.out.set1 _, HI.out.kp hkp (fun b _ hb e => ho (e ▸ hb)), fun h => absurd h HK.out, hn, ho⟩
  · have HS := Lib.hid (show failS s k = s by rw [failS, if_neg he])
    have HR := Lib.hid (show Rdr 77 w g ok s from ⟨a, n, c, l, hr, hi, hl, hn, ho⟩)
    have hb : ((s.e : Int) == 0) = false := beq_eq_false_iff_ne.2 (by omega)
    clear hk hl he hr hi
    go_enter Try.func60, Try.ntmps60
    go_wp2
    go_end0
    refine ⟨rfl, ?_, Kp.refl _ _⟩
    rw [HS.out]
    exact HR.out
theorem size_byte : ∀ W, (sizeOf 5).run Try.prog W = .ok 1 W := fun _ => by kernel_rfl

def nextS (s : St) : Nat × St := if s.e ≠ 0 then (0, s) else match s.l with
  | [] => (0, ⟨[], 3⟩)
  | c :: r => (c.toNat, ⟨r, 0⟩)
set_option maxHeartbeats 800000 in
theorem next_nil (g : Nat) (ok : Nat → Prop) (s : St) (a : Option Addr) (c : Nat) (w : World) (HR : Hid (Rdr 77 w g ok s)) (hc0 : w.cell? ⟨g, 0, none⟩ = some (.slice a 0 c)) (HE : Hid ((failS s 3).e ≠ 0)) :
    Calls Try.prog 59 #[.pointer (some ⟨g, 0, none⟩)] w fun e w' => e = .returned (.int .u8 0) ∧ Rdr 77 w' g ok (failS s 3) ∧ Own1 g w w' := by
  go_enter Try.func59, Try.ntmps59
  go_wp2_with fail
  refine (fail_any 3 g ok s w HR.out (by decide)).mono ?_
  rintro e w1 ⟨rfl, hw1, hk1⟩
  have HW := Lib.hid hw1
  obtain ⟨a1, n1, c1, l1, hr1, hi1, hl1, hn1, ho1⟩ := hw1
  have hc2 := hr1.cell1
  have hne : (((failS s 3).e : Int) != 0) = true := by rw [bne_iff_ne]; have := HE.out; omega
  clear hr1 hi1 hl1 hn1 ho1
  go_wp2
  go_ret
  exact ⟨rfl, HW.out, hk1⟩
set_option maxHeartbeats 800000 in
theorem next_err (g : Nat) (ok : Nat → Prop) (s : St) (a : Option Addr) (n c : Nat) (w : World) (HR : Hid (Rdr 77 w g ok s)) (hc0 : w.cell? ⟨g, 0, none⟩ = some (.slice a n c)) (hc1 : w.cell? ⟨g, 1, none⟩ = some (.int .i64 s.e)) (hne : ((s.e : Int) != 0) = true) (hnz : ((n : Int) == 0) = false) :
    Calls Try.prog 59 #[.pointer (some ⟨g, 0, none⟩)] w fun e w' => e = .returned (.int .u8 0) ∧ Rdr 77 w' g ok s ∧ Own1 g w w' := by
  go_enter Try.func59, Try.ntmps59
  go_wp2
  go_ret
  exact ⟨rfl, HR.out, Kp.refl _ _⟩
set_option maxHeartbeats 800000 in
theorem next_byte (g : Nat) (ok : Nat → Prop) (x : UInt8) (r : List UInt8) (a' : Option Addr) (n c c' b off : Nat) (w : World) (HR : Hid (R2 w g 77 (.slice (some ⟨b, off, none⟩) n c) 0))
    (hc0 : w.cell? ⟨g, 0, none⟩ = some (.slice (some ⟨b, off, none⟩) n c)) (hf0 : w.frozen? ⟨g, 0, none⟩ = false) (hc1 : w.cell? ⟨g, 1, none⟩ = some (.int .i64 0)) (hcell : w.cell? ⟨b, off, none⟩ = some (.int .u8 x.toNat))
    (hsl : ∀ W, (Instr.slice 24 (.slice (some ⟨b, off, none⟩) n c) (some (.int .i64 1)) none none).run Try.prog W = .ok (.slice a' (n - 1) c') W) (HI : Hid (In .u8 w ok (.slice a' (n - 1) c') (bI r))) (HL : Hid (r.length ≤ 100000)) (HO : Hid (¬ ok g))
    (hnz : ((n : Int) == 0) = false) (hlt : 0 < n) :
    Calls Try.prog 59 #[.pointer (some ⟨g, 0, none⟩)] w fun e w' => e = .returned (.int .u8 x.toNat) ∧ Rdr 77 w' g ok ⟨r, 0⟩ ∧ Own1 g w w' := by
  go_enter Try.func59, Try.ntmps59
  go_wp2
  go_ret
  have hkp : Own1 g w (w.setCell ⟨g, 0, none⟩ (.slice a' (n - 1) c')) := (Kp.refl (· = g) w).setCell (p := ⟨g, 0, none⟩) (fun _ => rfl) _
  exact ⟨rfl, ⟨a', n - 1, c', r, HR.out.set0 _, HI.out.kp hkp (fun b _ hb e => HO.out (e ▸ hb)), fun _ => rfl, HL.out, HO.out⟩, hkp⟩
theorem next_any (g : Nat) (ok : Nat → Prop) (s : St) (w : World) (h : Rdr 77 w g ok s) :
    Calls Try.prog 59 #[.pointer (some ⟨g, 0, none⟩)] w fun e w' => e = .returned (.int .u8 (nextS s).1) ∧ Rdr 77 w' g ok (nextS s).2 ∧ Own1 g w w' := by
  have HR := Lib.hid h
  obtain ⟨a, n, c, l, hr, hi, hl, hn, ho⟩ := h
  have hc0 := hr.cell0
  have hc1 := hr.cell1
  obtain ⟨hnl, hnc⟩ := hi.len
  rw [bI_len] at hnl
  by_cases he : s.e = 0
  · have hll := hl he
    obtain ⟨sl, se⟩ := s
    dsimp only at he hll
    subst hll he
    cases l with
    | nil =>
      have hn0 : n = 0 := hnl
      subst hn0
      exact next_nil g ok _ a c w HR hc0 (Lib.hid (by decide))
    | cons x r =>
      obtain ⟨b, off, rfl, hb1, hb2, hcell⟩ := hi.at_ (j := 0) (by simp [bI])
      obtain ⟨a', c', hsl, hi'⟩ := hi.from_ (P := Try.prog) (ty := 24) Try.underlying24 size_byte 1 (by simp at hnl; omega) 1 rfl
      simp at hnl hn
      exact next_byte g ok x r a' n c c' b off w (Lib.hid hr) hc0 hr.fr0 hc1 hcell hsl (Lib.hid hi') (Lib.hid (by omega)) (Lib.hid ho) (beq_eq_false_iff_ne.2 (by omega)) (by omega)
  · have e1 : nextS s = (0, s) := by rw [nextS, if_pos he]
    have e2 : failS s 3 = s := by rw [failS, if_neg he]
    rw [e1]
    by_cases h0 : n = 0
    · subst h0
      have := next_nil g ok s a c w HR hc0 (Lib.hid (by rw [e2]; exact he))
      rw [e2] at this
      exact this
    · exact next_err g ok s a n c w HR hc0 hc1 (by rw [bne_iff_ne]; omega) (beq_eq_false_iff_ne.2 (by omega))
end Go.Proofs.Ytgcgifjfgmhhmaa
