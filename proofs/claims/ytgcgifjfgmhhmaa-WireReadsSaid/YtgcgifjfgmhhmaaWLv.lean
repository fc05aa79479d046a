/- The contract of the law's read for every kind, and the documented examples: the law's helper lives returns true. -/
import Derived.Test.YtgcgifjfgmhhmaaWLr
import Derived.Test.YtgcgifjfgmhhmaaSam
namespace Go.Proofs.Ytgcgifjfgmhhmaa
open Go.RowKit

theorem scan_len : ∀ (l : List UInt8) (i acc : Nat), (scan i acc l).2.l.length ≤ l.length := by
  intro l
  induction l with
  | nil => intro i acc; simp [scan]
  | cons c r ih =>
    intro i acc
    rw [scan]
    split
    · simp
    · split
      · simp
      · have := ih (i + 1) (acc + c.toNat % 128 * 128 ^ i)
        simp; omega
theorem uintS_len' (s : St) : (uintS s).2.l.length ≤ s.l.length := by
  unfold uintS
  split
  · exact Nat.le_refl _
  · exact scan_len _ _ _
theorem lenS_len (s : St) : (lenS s).2.l.length ≤ s.l.length := by
  unfold lenS
  split
  · exact uintS_len' s
  · exact uintS_len' s
theorem lenS_small {s : St} {l : List UInt8} {m : Nat} (hl : s.e = 0 → l = s.l) (hn : l.length ≤ m) : (lenS s).1 ≤ m := by
  by_cases h : s.e = 0
  · have := lenS_le s
    have := lenS_len s
    rw [← hl h] at this
    omega
  · rw [lenS_err h]
    omega
theorem partS_small {s : St} {l : List UInt8} {m : Nat} (hl : s.e = 0 → l = s.l) (hn : l.length ≤ m) : (partS s).1.length ≤ m := by
  unfold partS
  split
  · simp
  · have := lenS_small hl hn
    rw [List.length_take]
    omega
theorem lread_any (k : Nat) (g : Nat) (ok : Nat → Prop) (s : St) (w : World) (hk : k ≤ 5) (h : Rdr 77 w g ok s) (hok : ∀ b, ok b → b < w.heap.size) :
    Calls Try.prog 22 #[.pointer (some ⟨g, 0, none⟩), .int .i64 k] w (Read k g ok s w) := by
  obtain ⟨a, n, c, l, hr, hi, hl, hn, ho⟩ := h
  have h : Rdr 77 w g ok s := ⟨a, n, c, l, hr, hi, hl, hn, ho⟩
  match k, hk with
  | 0, _ => exact lread0 g ok s w h hok
  | 1, _ => exact lread1 g ok s w h hok
  | 2, _ =>
    rcases hb : (boolS s).1 with _ | _
    · exact lread2f g ok s w h hok hb
    · exact lread2t g ok s w h hok hb
  | 3, _ => exact lread3 g ok s w h hok
  | 4, _ => exact lread4 g ok s w h hok (Nat.le_trans (partS_small hl hn) (by omega))
  | 5, _ => exact lread5 g ok s w h hok (lenS_small hl hn)

theorem in_lit (k : IntKind) (w : World) (t : TypeId) (zs : List Int) (h : zs.length ≤ maxLen := by decide) : In k (w.alloc (.cells (vs k zs).toArray t)) (w.heap.size ≤ ·) (.slice (some ⟨w.heap.size, 0, none⟩) zs.length zs.length) zs :=
  In.own (own_new k w t zs h)
theorem below_own1 {B g : Nat} {w w' w'' : World} (h : Below B w w') (hB : B ≤ w.heap.size) (hk : Own1 g w' w'') (hg : B ≤ g) : Below B w w'' :=
  ⟨hk.os.trans h.os, hk.tape.trans h.tape, hk.output.trans h.output, Nat.le_trans h.size hk.size, fun k hk' => (hk.block k (by have := h.size; omega) (by omega)).trans (h.block k hk')⟩
theorem uv300 : uv 300 = [172, 2] := by rw [uv_ge (by omega), uv_lt (by omega)]; rfl
theorem uv1 : uv (zz (-1)) = [1] := by rw [uv_lt (by decide)]; rfl
theorem uv2 : uv 2 = [2] := by rw [uv_lt (by decide)]; rfl
theorem s1 : uintS ⟨[172, 2, 1, 2, 97, 98], 0⟩ = (300, ⟨[1, 2, 97, 98], 0⟩) := by decide
theorem s2 : intS ⟨[1, 2, 97, 98], 0⟩ = (-1, ⟨[2, 97, 98], 0⟩) := by decide
theorem s3 : partS ⟨[2, 97, 98], 0⟩ = ([97, 98], ⟨[], 0⟩) := by decide
theorem s4 : (intS ⟨[128, 0], 0⟩).2 = ⟨[], 2⟩ := by decide

set_option maxHeartbeats 1600000 in
theorem lives_any (w : World) : Calls Try.prog 18 #[] w fun e w' => e = .returned (.bool true) ∧ Below w.heap.size w w' := by
  have HW0 := Lib.hid (Wr.zero w)
  have HB0 := Lib.hid ((Below.refl w.heap.size w).alloc (Nat.le_refl _) (.cells #[.slice none 0 0] 32))
  go_enter Try.func18, Try.ntmps18
  go_wp2_with fail
  refine (wuint_any 300 _ [] _ (by decide) HW0.out (by decide)).mono ?_
  rintro e w1 ⟨rfl, hw1, hb1⟩
  have HW1 := Lib.hid hw1
  have HB1 := Lib.hid (HB0.out.trans hb1)
  clear hw1 hb1 HB0 HW0
  go_wp2_with fail
  refine (wint_any (-1) _ _ _ ⟨by decide, by decide⟩ HW1.out (by rw [uv300]; decide)).mono ?_
  rintro e w2 ⟨rfl, hw2, hb2⟩
  have HW2 := Lib.hid hw2
  have HB2 := Lib.hid (HB1.out.trans hb2)
  clear hw2 hb2 HB1 HW1
  go_wp2_with fail
  refine (wtext_any ⟨#[97, 98]⟩ _ _ _ (by decide) HW2.out (by rw [uv300, uv1]; decide)).mono ?_
  rintro e w3 ⟨rfl, hw3, hb3⟩
  have HW3 := Lib.hid (show Wr w3 w.heap.size [172, 2, 1, 2, 97, 98] by
    have : (ByteArray.mk #[97, 98]).size = 2 := rfl
    rw [this, uv300, uv1, uv2] at hw3
    exact hw3)
  have HB3 := Lib.hid (HB2.out.trans hb3)
  clear hw3 hb3 HB2 HW2
  go_wp2_with fail
  refine (wdone_any _ _ _ HW3.out (by decide)).mono ?_
  rintro e w4 ⟨a4, c4, rfl, hown4, hb4⟩
  have HB4 := Lib.hid (HB3.out.trans (hb4.mono HB3.out.size))
  have HI4 := Lib.hid ((In.own hown4).mono (ok' := (· < w4.heap.size)) fun _ h _ => h)
  clear hown4 hb4 HB3 HW3
  rw [show (bI [172, 2, 1, 2, 97, 98]).length = 6 from rfl] at HI4 ⊢
  go_wp2_with fail
  refine (read_new _ a4 6 c4 _ w4 rfl (by decide) HI4.out).mono ?_
  rintro e w5 ⟨⟨g5, rfl, hr5, hg5⟩, hb5⟩
  have HB5 := Lib.hid (HB4.out.trans (hb5.mono HB4.out.size))
  have HI5 := Lib.hid (HI4.out.new hb5)
  have HR5 := Lib.hid hr5
  have HL5 := Lib.hid hr5.lt
  have HG5 := Lib.hid (Nat.le_trans HB4.out.size hg5)
  have HG4 := Lib.hid hg5
  clear hr5 hg5 hb5 HI4 HB4
  go_wp2_with fail
  refine (read_new [128, 0] _ 2 2 _ _ rfl (by decide) (in_lit .u8 w5 5 [128, 0])).mono ?_
  rintro e w6 ⟨⟨g6, rfl, hr6, hg6⟩, hb6⟩
  have hb56 : Below w5.heap.size w5 w6 := ((Below.refl _ w5).alloc (Nat.le_refl _) _).trans (hb6.mono (by simp))
  have HB6 := Lib.hid (HB5.out.trans (hb56.mono HB5.out.size))
  have HI6 := Lib.hid (HI5.out.new hb56)
  have HR6 := Lib.hid (HR5.out.new hb56)
  have hg56 : g5 < g6 := by have := HL5.out; simp at hg6; omega
  have HG56 := Lib.hid hg56
  have HS6 := Lib.hid (hr6.mono (ok' := fun b => g5 < b ∧ b < g6) (fun b _ h => ⟨by have := HL5.out; have := h.1; simp at this; omega, h.2⟩) (fun h => Nat.lt_irrefl _ h.2))
  clear hr6 hg6 hb6 hb56 HI5 HB5 HR5 hg56
  go_wp2_with fail
  refine (ruint_any g5 _ _ w6 HR6.out).mono ?_
  rw [s1]
  rintro e w7 ⟨rfl, hr7, hk7⟩
  have HB7 := Lib.hid (below_own1 HB6.out (Nat.le_refl _) hk7 (by have := HG5.out; have := HG56.out; omega))
  have HI7 := Lib.hid (HI6.out.kp hk7 (fun b _ hb e => by have := HG4.out; have := HG56.out; omega))
  have HR7 := Lib.hid hr7
  have HS7 := Lib.hid (HS6.out.kp hk7 (fun e => by have := HG56.out; omega) (fun b _ hb e => by have := HG56.out; omega))
  clear hr7 hk7 HB6 HI6 HR6 HS6
  go_wp2_with fail
  refine (rdint_any g5 _ _ w7 HR7.out).mono ?_
  rw [s2]
  rintro e w8 ⟨rfl, hr8, hk8⟩
  have HB8 := Lib.hid (below_own1 HB7.out (Nat.le_refl _) hk8 (by have := HG5.out; have := HG56.out; omega))
  have HI8 := Lib.hid (HI7.out.kp hk8 (fun b _ hb e => by have := HG4.out; have := HG56.out; omega))
  have HR8 := Lib.hid hr8
  have HS8 := Lib.hid (HS7.out.kp hk8 (fun e => by have := HG56.out; omega) (fun b _ hb e => by have := HG56.out; omega))
  clear hr8 hk8 HB7 HI7 HR7 HS7
  go_wp2_with fail
  refine (rdtext_any g5 _ _ w8 HR8.out).mono ?_
  rw [s3]
  rintro e w9 ⟨rfl, hr9, hk9⟩
  have HB9 := Lib.hid (below_own1 HB8.out (Nat.le_refl _) hk9 (by have := HG5.out; have := HG56.out; omega))
  have HI9 := Lib.hid (HI8.out.kp hk9 (fun b _ hb e => by have := HG4.out; have := HG56.out; omega))
  have HR9 := Lib.hid hr9
  have HS9 := Lib.hid (HS8.out.kp hk9 (fun e => by have := HG56.out; omega) (fun b _ hb e => by have := HG56.out; omega))
  clear hr9 hk9 HB8 HI8 HR8 HS8
  go_wp2_with fail
  refine (rdint_any g6 _ _ w9 HS9.out).mono ?_
  rintro e w10 ⟨rfl, hr10, hk10⟩
  rw [s4] at hr10
  have HB10 := Lib.hid (below_own1 HB9.out (Nat.le_refl _) hk10 (by have := HG5.out; have := HG56.out; omega))
  have HI10 := Lib.hid (HI9.out.kp hk10 (fun b _ hb e => by have := HG4.out; have := HG56.out; omega))
  have HS10 := Lib.hid hr10
  have HR10 := Lib.hid (HR9.out.kp hk10 (fun e => by have := HG56.out; omega) (fun b _ hb e => by have := HG56.out; omega))
  clear hr10 hk10 HB9 HI9 HR9 HS9
  go_wp2_with fail
  have hlit := in_lit .u8 w10 5 [172, 2, 1, 2, 97, 98]
  have hb11 := (Below.refl w10.heap.size w10).alloc (Nat.le_refl _) (.cells (vs .u8 [172, 2, 1, 2, 97, 98]).toArray 5)
  refine (sameBytes_any [172, 2, 1, 2, 97, 98] [172, 2, 1, 2, 97, 98] _ _ 6 6 _ _ _ _ true _ rfl rfl (by decide) (by decide) (HI10.out.new hb11).rd hlit.rd (Nat.le_refl _) (Nat.le_refl _) (by decide)).mono ?_
  rintro e w11 ⟨rfl, hb12⟩
  have hb11' := hb11.trans (hb12.mono (by simp))
  have HB11 := Lib.hid (HB10.out.trans (hb11'.mono HB10.out.size))
  have HR11 := Lib.hid (HR10.out.new hb11')
  have HS11 := Lib.hid (HS10.out.new hb11')
  clear hlit hb11 hb12 hb11' HB10 HI10 HR10 HS10
  go_wp2_with fail
  refine (rdend_any g5 _ _ w11 HR11.out).mono ?_
  rw [show endS ⟨[], 0⟩ = 0 from rfl]
  rintro e w' ⟨rfl, rfl⟩
  go_wp2_with fail
  refine (rdend_any g6 _ _ w11 HS11.out).mono ?_
  rw [show endS ⟨[], 2⟩ = 2 from rfl]
  rintro e w' ⟨rfl, rfl⟩
  go_wp2
  go_ret
  exact ⟨rfl, HB11.out⟩
theorem u64_of_wf {a : Int} (h : (Lit.int .u64 a).wf = true) : ∃ u : Nat, a = (u : Int) ∧ u < 18446744073709551616 := by
  have hb : 0 ≤ a ∧ a ≤ 18446744073709551615 := by simpa [Lit.wf, IntKind.min, IntKind.max, IntKind.signed, IntKind.bits] using h
  exact ⟨a.toNat, by omega, by omega⟩
theorem i64_of_wf {a : Int} (h : (Lit.int .i64 a).wf = true) : ok64 a := by
  have hb : -9223372036854775808 ≤ a ∧ a ≤ 9223372036854775807 := by simpa [Lit.wf, IntKind.min, IntKind.max, IntKind.signed, IntKind.bits] using h
  exact hb
end Go.Proofs.Ytgcgifjfgmhhmaa
