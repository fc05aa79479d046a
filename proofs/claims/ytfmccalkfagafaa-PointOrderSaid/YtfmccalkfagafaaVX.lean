/- What else is needed of the texts below. Conditions: as each statement has them. -/
import Derived.Test.YtfmccalkfagafaaYB1
import Derived.Test.YtfmccalkfagafaaYB2
import Derived.Test.YtfmccalkfagafaaYB3
import Derived.Test.YtfmccalkfagafaaYB4
import Derived.Test.YtfmccalkfagafaaYB5
import Derived.Test.YtfmccalkfagafaaYB6
import Derived.Test.YtfmccalkfagafaaYFA
import Derived.Test.YtfmccalkfagafaaYFB
import Derived.Test.YtfmccalkfagafaaYFC
import Derived.Test.YtfmccalkfagafaaYFD
import Derived.Test.YtfmccalkfagafaaYFE
import Derived.Test.YtfmccalkfagafaaYFF
import Derived.Test.YtfmccalkfagafaaYFG
import Derived.Test.YtfmccalkfagafaaYFH
import Derived.Test.YtfmccalkfagafaaYFI
import Derived.Test.YtfmccalkfagafaaYFJ
import Derived.Test.YtfmccalkfagafaaYPA
import Derived.Test.YtfmccalkfagafaaYPB
import Derived.Test.YtfmccalkfagafaaYPC
import Derived.Test.YtfmccalkfagafaaYPD
import Derived.Test.YtfmccalkfagafaaYPE
import Derived.Test.YtfmccalkfagafaaYPF
import Derived.Test.YtfmccalkfagafaaYPG
import Derived.Test.YtfmccalkfagafaaYPH
import Derived.Test.YtfmccalkfagafaaYPK
import Derived.Test.YtfmccalkfagafaaYPM
import Derived.Test.YtfmccalkfagafaaYPN
import Derived.Test.YtfmccalkfagafaaYPQ
import Derived.Test.YtfmccalkfagafaaYQM
import Derived.Test.YtfmccalkfagafaaYQA
import Derived.Test.YtfmccalkfagafaaYQD
import Derived.Test.YtfmccalkfagafaaYQE
import Derived.Test.YtfmccalkfagafaaYQF
import Derived.Test.YtfmccalkfagafaaYQK
import Derived.Test.YtfmccalkfagafaaYQL
import Derived.Below
import Derived.BigQuiet
import Derived.ChangeAlike
import Derived.Deep.DeepCutAuto
import Derived.Deep.DrawnRows
import Derived.Deep.Draws
import Derived.Deep.LoopGhost
import Derived.Deep.QuietTactic
import Derived.Deep.RegionHeld3
import Derived.Deep.RegionWith
import Derived.IntWalk
import Derived.Laws.AppendOwnNone
import Derived.Laws.BitsAllLaws
import Derived.Laws.BytesString
import Derived.Laws.Cells
import Derived.Laws.CopyOwn
import Derived.Laws.NewBlocks
import Derived.Laws.OwnMore
import Derived.Laws.Rows
import Derived.Laws.Slices
import Derived.Lib.AppendStr
import Derived.Lib.ConvBytes
import Derived.Lib.Hide
import Derived.LoopTactic
import Derived.Maps.AppendAt
import Derived.Outline
import Derived.OwnWalk
import Derived.RangeFuncBox
import Derived.RegionTactic
import Derived.WalkKit
import Derived.WalkLawsBesides
import Derived.WalkMore
import Derived.WalkSpells
import Derived.WideShapes

namespace Go.Proofs.Ytfmccalkfagafaa
open Go.RowKit

theorem bI_length (l : List UInt8) : (bI l).length = l.length := by simp [bI]
theorem bI_get {l : List UInt8} {j : Nat} (h : j < l.length) : (bI l).getD j 0 = ((l[j]).toNat : Int) := by
  simp [bI, h]
end Go.Proofs.Ytfmccalkfagafaa

namespace Go.Proofs.Ytfmccalkfagafaa
open Go.RowKit

/-- The varint of a number. -/
def uv (n : Nat) : List UInt8 := if n < 128 then [UInt8.ofNat n] else UInt8.ofNat (n % 128 + 128) :: uv (n / 128)
termination_by n
decreasing_by omega
theorem uv_lt {n : Nat} (h : n < 128) : uv n = [UInt8.ofNat n] := by rw [uv, if_pos h]
theorem uv_ge {n : Nat} (h : 128 ≤ n) : uv n = UInt8.ofNat (n % 128 + 128) :: uv (n / 128) := by rw [uv, if_neg (by omega)]
theorem u8nat (n : Nat) (h : n < 256) : (UInt8.ofNat n).toNat = n := by rw [UInt8.toNat_ofNat']; omega

/-- What a reader holds: the bytes that are left, and the error (0: none, 2: form, 3: more). -/
structure St where
  l : List UInt8
  e : Nat
deriving DecidableEq

def scan : Nat → Nat → List UInt8 → Nat × St
  | _, _, [] => (0, ⟨[], 3⟩)
  | i, acc, c :: r => if (i = 9 ∧ 1 < c.toNat) ∨ (0 < i ∧ c.toNat = 0) then (0, ⟨r, 2⟩) else if c.toNat < 128 then (acc + c.toNat * 128 ^ i, ⟨r, 0⟩) else scan (i + 1) (acc + c.toNat % 128 * 128 ^ i) r
def uintS (s : St) : Nat × St := if s.e ≠ 0 then (0, s) else scan 0 0 s.l
def lenS (s : St) : Nat × St := if (uintS s).2.l.length < (uintS s).1 then (0, ⟨(uintS s).2.l, 3⟩) else uintS s
def partS (s : St) : List UInt8 × St := if (lenS s).2.e ≠ 0 then ([], (lenS s).2) else ((lenS s).2.l.take (lenS s).1, ⟨(lenS s).2.l.drop (lenS s).1, 0⟩)
theorem pow128 (i : Nat) : 0 < 128 ^ i := Nat.pow_pos (by omega)
theorem scan_rt (r : List UInt8) : ∀ (n i acc : Nat), (0 < i → 0 < n) → n * 128 ^ i < 18446744073709551616 → scan i acc (uv n ++ r) = (acc + n * 128 ^ i, ⟨r, 0⟩) := by
  intro n
  induction n using Nat.strongRecOn with
  | ind n ih =>
    intro i acc hi hn
    have hp := pow128 i
    by_cases h : n < 128
    · rw [uv_lt h, List.cons_append, List.nil_append, scan, u8nat n (by omega), if_neg, if_pos h]
      rintro (⟨rfl, h1⟩ | ⟨h1, h2⟩)
      · have : 2 * 128 ^ 9 ≤ n * 128 ^ 9 := Nat.mul_le_mul_right _ h1
        have e : (128 : Nat) ^ 9 = 9223372036854775808 := by decide
        omega
      · have := hi h1; omega
    · have hc : (UInt8.ofNat (n % 128 + 128)).toNat = n % 128 + 128 := u8nat _ (by omega)
      have e : n % 128 * 128 ^ i + n / 128 * 128 ^ (i + 1) = n * 128 ^ i := by
        rw [Nat.pow_succ, Nat.mul_comm (128 ^ i) 128, ← Nat.mul_assoc, ← Nat.add_mul]
        congr 1; omega
      rw [uv_ge (by omega), List.cons_append, scan, hc, if_neg, if_neg (by omega), ih (n / 128) (by omega) (i + 1) _ (fun _ => by omega) (by omega)]
      · congr 1
        rw [Nat.add_mod_right, Nat.mod_mod]
        omega
      · rintro (⟨rfl, h1⟩ | ⟨h1, h2⟩)
        · have : 128 * 128 ^ 9 ≤ n * 128 ^ 9 := Nat.mul_le_mul_right _ (by omega)
          have e : (128 : Nat) ^ 9 = 9223372036854775808 := by decide
          omega
        · omega
theorem uv_len : ∀ (n : Nat) (k : Nat), n < 128 ^ (k + 1) → (uv n).length ≤ k + 1 := by
  intro n
  induction n using Nat.strongRecOn with
  | ind n ih =>
    intro k hk
    by_cases h : n < 128
    · rw [uv_lt h]; simp
    · rw [uv_ge (by omega)]
      match k with
      | 0 => simp at hk; omega
      | k + 1 =>
        have := ih (n / 128) (by omega) k (by rw [Nat.pow_succ] at hk; omega)
        simp; omega
theorem uv_len10 {n : Nat} (h : n < 18446744073709551616) : (uv n).length ≤ 10 := uv_len n 9 (Nat.lt_trans h (by decide))
end Go.Proofs.Ytfmccalkfagafaa

namespace Go.Proofs.Ytfmccalkfagafaa
open Go.RowKit

theorem uintS_rt {n : Nat} (h : n < 18446744073709551616) (r : List UInt8) : uintS ⟨uv n ++ r, 0⟩ = (n, ⟨r, 0⟩) := by
  rw [uintS, if_neg (by simp)]
  show scan 0 0 (uv n ++ r) = _
  rw [scan_rt r n 0 0 (fun h => by omega) (by simpa using h)]
  simp
theorem lenS_rt {n : Nat} (h : n < 18446744073709551616) (r : List UInt8) (hr : n ≤ r.length) : lenS ⟨uv n ++ r, 0⟩ = (n, ⟨r, 0⟩) := by
  rw [lenS, uintS_rt h, if_neg (by simp; omega)]
theorem partS_rt (b r : List UInt8) (h : b.length < 18446744073709551616) : partS ⟨uv b.length ++ b ++ r, 0⟩ = (b, ⟨r, 0⟩) := by
  rw [partS, List.append_assoc, lenS_rt h _ (by simp), if_neg (by simp)]
  simp
end Go.Proofs.Ytfmccalkfagafaa

namespace Go.Proofs.Ytfmccalkfagafaa
open Go.RowKit

section
variable {k : IntKind} {w w' : World} {B B' : Nat} {sv : Value} {xs : List Int}
theorem Rd.form (h : Rd k w B sv xs) : ∃ a c, sv = .slice a xs.length c := by
  rcases h with ⟨rfl, rfl⟩ | ⟨b, off, c, rfl, _⟩
  · exact ⟨none, 0, rfl⟩
  · exact ⟨_, c, rfl⟩
/-- A row of the call's own from block base on lies as it lay where all below base + is left alone. -/
theorem own_below {base e n size : Nat} {ys : List Value} (h : w.ownsRow base e size sv n ys) (hb : Below w.heap.size w w') : w'.ownsRow base e size sv n ys := by
  refine ⟨h.1, ?_⟩
  rcases h.2 with h0 | ⟨g, cap, cur, h1, h2, h3, h4⟩
  · exact .inl h0
  · exact .inr ⟨g, cap, cur, h1, h2, (hb.block g (Array.getElem?_eq_some_iff.1 h3).1).trans h3, h4⟩
theorem own_base {base base' e n size : Nat} {ys : List Value} (h : w.ownsRow base e size sv n ys) (hb : base' ≤ base) : w.ownsRow base' e size sv n ys := by
  refine ⟨h.1, ?_⟩
  rcases h.2 with h0 | ⟨g, cap, cur, h1, h2, h3, h4⟩
  · exact .inl h0
  · exact .inr ⟨g, cap, cur, h1, Nat.le_trans hb h2, h3, h4⟩
end
/-- A string made into bytes: a new slice that reads as the string's bytes; what lay lies as it lay. -/
theorem conv_bytes {P : Program} (w : World) (src dst e : TypeId) (s : ByteArray) (hs : P.underlying src = some .string) (hd : P.underlying dst = some (.slice e)) (he : P.underlying e = some (.int .u8)) :
    ∃ W1 c, (convert src dst (.string s)).run P w = .ok (.slice (some ⟨w.heap.size, 0, none⟩) s.size c) W1 ∧ Below w.heap.size w W1 ∧ Rd .u8 W1 W1.heap.size (.slice (some ⟨w.heap.size, 0, none⟩) s.size c) (bI s.data.toList) := by
  refine ⟨Lib.bytesWorld w e s, grownCap w s.size 0 e, Lib.run_convert_string_bytes w src dst e s hs hd he, ⟨?_, ?_, ?_, ?_, ?_⟩, .inr ⟨w.heap.size, 0, grownCap w s.size 0 e, ?_, ?_, ?_, ?_⟩⟩
  · simp [Lib.bytesWorld, World.freeze, World.alloc, World.drew, -World.alloc_eq, -World.drew_eq]
  · simp [Lib.bytesWorld, World.freeze, World.alloc, World.drew, -World.alloc_eq, -World.drew_eq]
  · simp [Lib.bytesWorld, World.freeze, World.alloc, World.drew, -World.alloc_eq, -World.drew_eq]
  · rw [Lib.bytesWorld_size]; omega
  · exact fun k hk => Lib.bytesWorld_at_old w e s k hk
  · rw [bI_length]; simp
  · rw [bI_length]
    simpa using grownCap_ge w s.size 0 e
  · rw [Lib.bytesWorld_size]; omega
  · intro j v hj
    have hlt : j < s.size := by have := (List.getElem?_eq_some_iff.1 hj).1; rw [bI_length] at this; simpa using this
    rw [Nat.zero_add, Lib.bytesWorld_cell w e s j hlt]
    have hlt' : j < s.data.toList.length := by simpa using hlt
    have h2 := bI_get hlt'
    rw [List.getD_eq_getElem?_getD, hj] at h2
    rw [List.getD_eq_getElem?_getD, List.getElem?_eq_getElem hlt']
    simpa using h2.symm
end Go.Proofs.Ytfmccalkfagafaa

namespace Go.Proofs.Ytfmccalkfagafaa
open Go.RowKit

section
variable {t t' : Nat → Prop} {w w' w'' : World}
end

section
variable {k : IntKind} {w w' : World} {ok ok' t : Nat → Prop} {sv : Value} {xs : List Int} {B : Nat}
theorem In.form (h : In k w ok sv xs) : ∃ a c, sv = .slice a xs.length c := h.rd.form
end

/-- append onto a row of the call's own, the source nil or not. -/
theorem wpList_append_in {P : Program} {w : World} {ops : Array Oper} {rest : List Oper} {o : Oper} {a : Act} {Q : Exit → Act → World → Prop} (hgd : o.guard = none) (s x : Operand) (t : TypeId)
    (ho : o.op = .call { callee := .builtin .append, args := #[s, x], argTypes := #[t, t] })
    (base : Nat) (e : TypeId) (i : TypeInfo) (z : Value) (bytes : Nat) (ht : P.underlying t = some (.slice e)) (hi : P.info? e = some i) (hz : i.zero = some z)
    (hsize : i.size = 1) (hby : i.bytes = bytes) (hzs : z.cells.size = 1)
    (v : Value) (n : Nat) (xs : List Value) (hs : a.eval s = v) (hown : w.ownsRow base e 1 v n xs)
    (k : IntKind) (ok : Nat → Prop) (A : Option Addr) (m c : Nat) (news : List Int) (hx : a.eval x = .slice A m c) (hr : In k w ok (.slice A m c) news)
    (h63 : n + m ≤ maxLen) (hbytes : (n + m) * bytes ≤ 140737488355328) (hbase : base ≤ w.heap.size)
    (h : ∀ v' w', w'.ownsRow base e 1 v' (n + m) (xs ++ vs k news) → w.grownBy w' v.ownBlock → wpList P ops Q rest (a.put o.dst v') w') : wpList P ops Q (o :: rest) a w := by
  obtain ⟨hm, _⟩ := hr.len
  rcases hr with ⟨h0, rfl⟩ | ⟨b, off, c', h1, _, _, _, h5⟩
  · injection h0 with h1 h2 h3
    subst h1 h2 h3
    refine wpList_append_own_none hgd s x t ho base e i 1 ht hi v n xs hs hown hx (h v w ?_ ⟨rfl, rfl, rfl, Nat.le_refl _, fun _ _ _ => rfl⟩)
    simpa [vs] using hown
  · injection h1 with h1 h6 h7
    subst h1
    refine wpList_append_own w hgd s x t ho base e i z 1 bytes ht hi hz hsize hby hzs (by decide) v n xs hs hown ⟨b, off, none⟩ m c (vs k news) hx (by rw [vs_length]; omega) (fun j u hu => ?_) (vs_one k news) h63 hbytes hbase (fun v' w' g1 g2 _ => h v' w' g1 g2)
    simp only [vs, List.getElem?_map, Option.map_eq_some_iff] at hu
    obtain ⟨v, hv, rfl⟩ := hu
    rw [Go.WideShapes.add_plain]
    exact h5 j v hv
end Go.Proofs.Ytfmccalkfagafaa

namespace Go.Proofs.Ytfmccalkfagafaa

section
variable {B : Nat}
end
end Go.Proofs.Ytfmccalkfagafaa

namespace Go.Proofs.Ytfmccalkfagafaa

theorem dec_ne (n : Nat) : dec n ≠ [] := by
  by_cases h : n < 10
  · rw [dec_lt h]; simp
  · rw [dec_ge (by omega)]; simp
theorem decI_inj {x y : Int} (h : decI x = decI y) : x = y := by
  have hm : ∀ n, (dec n).getD 0 0 ≠ 45 := by
    intro n e
    rcases hd : dec n with _ | ⟨c, r⟩
    · exact absurd hd (dec_ne n)
    · have := isDig_dec n c (by rw [hd]; simp)
      rw [hd] at e
      simp only [List.getD_cons_zero] at e
      subst e
      exact absurd this.1 (by decide)
  have hn : ∀ a b, dec a = dec b → a = b := fun a b e => by rw [← dval_dec a, e, dval_dec]
  unfold decI at h
  split at h <;> split at h
  · have := hn _ _ (List.cons.inj h).2; omega
  · exact absurd (by rw [← h]; rfl) (hm y.natAbs)
  · exact absurd (by rw [h]; rfl) (hm x.natAbs)
  · have := hn _ _ h; omega
end Go.Proofs.Ytfmccalkfagafaa

namespace Go.Proofs.Ytfmccalkfagafaa

end Go.Proofs.Ytfmccalkfagafaa

namespace Go.Proofs.Ytfmccalkfagafaa
open Go.RowKit

section
variable {k : IntKind} {ok ok' : Nat → Prop} {w w' : World} {v : Value} {l : List Nat} {a : Option Addr} {n c : Nat}
theorem LO.form (h : LO k ok w v l) : ∃ a c, v = .slice a l.length c := by
  have := In.form h
  rwa [nI_len] at this
end
section
variable {k : IntKind} {w w' : World} {g : Nat} {t : TypeId} {l : List Nat}
end
end Go.Proofs.Ytfmccalkfagafaa

namespace Go.Proofs.Ytfmccalkfagafaa

section
variable {B : Nat} {la lb o : List Nat} {i k c : Nat}
end
end Go.Proofs.Ytfmccalkfagafaa

namespace Go.Proofs.Ytfmccalkfagafaa

section
variable {B : Nat}
end
end Go.Proofs.Ytfmccalkfagafaa

namespace Go.Proofs.Ytfmccalkfagafaa

section
variable {B x b m n nq j : Nat} {r oq : List Nat}
end
end Go.Proofs.Ytfmccalkfagafaa

namespace Go.Proofs.Ytfmccalkfagafaa
end Go.Proofs.Ytfmccalkfagafaa



namespace Go.Proofs.Ytfmccalkfagafaa
open Go.RowKit
attribute [local go_sem ↓] Go.wp_at_zero Go.wp_at_succ
set_option maxRecDepth 100000 in
set_option maxHeartbeats 6400000 in
theorem rsign_any (n : Int) (w : World) :
    Calls Try.prog 42 #[.int .i64 n] w fun e w' => e = .returned (.int .i64 (cmpI n 0)) ∧ w = w' := by
  rcases cmpI_cases n 0 with ⟨h, hv⟩ | ⟨h, hv⟩ | ⟨h, hv⟩
  all_goals
    rw [hv]
    clear hv
    try subst h
    go_enter Try.func42, Try.ntmps42
    go_wp2
    go_ret
    exact ⟨rfl, rfl⟩
theorem cmpI_sub (a b : Int) : cmpI (a - b) 0 = cmpI a b := by unfold cmpI; split <;> split <;> (try split) <;> (try split) <;> omega
set_option maxRecDepth 100000 in
set_option maxHeartbeats 6400000 in
theorem rcmp_any (X Y D X' Y' D' : Int) (w : World) (h : Sb X Y D) (h' : Sb X' Y' D') :
    Calls Try.prog 13 #[.agg #[.int .i64 X, .int .i64 Y, .int .i64 D], .agg #[.int .i64 X', .int .i64 Y', .int .i64 D']] w fun e w' => e = .returned (.int .i64 (rcV X Y D X' Y' D')) ∧ Below w.heap.size w w' := by
  obtain ⟨⟨d0, d1⟩, ⟨x0, x1⟩, y0, y1⟩ := h
  obtain ⟨⟨d0', d1'⟩, ⟨x0', x1'⟩, y0', y1'⟩ := h'
  have m1 := mul_in (show X.natAbs ≤ 400 by omega) (show D'.natAbs ≤ 12 by omega)
  have m2 := mul_in (show X'.natAbs ≤ 400 by omega) (show D.natAbs ≤ 12 by omega)
  have m3 := mul_in (show Y.natAbs ≤ 400 by omega) (show D'.natAbs ≤ 12 by omega)
  have m4 := mul_in (show Y'.natAbs ≤ 400 by omega) (show D.natAbs ≤ 12 by omega)
  have e1 : IntKind.i64.wrap (X * D') = X * D' := IntWalk.i64_in _ (by omega)
  have e2 : IntKind.i64.wrap (X' * D) = X' * D := IntWalk.i64_in _ (by omega)
  have e3 : IntKind.i64.wrap (Y * D') = Y * D' := IntWalk.i64_in _ (by omega)
  have e4 : IntKind.i64.wrap (Y' * D) = Y' * D := IntWalk.i64_in _ (by omega)
  have e5 : IntKind.i64.wrap (X * D' - X' * D) = X * D' - X' * D := IntWalk.i64_in _ (by omega)
  have e6 : IntKind.i64.wrap (Y * D' - Y' * D) = Y * D' - Y' * D := IntWalk.i64_in _ (by omega)
  clear m1 m2 m3 m4 d0 d1 x0 x1 y0 y1 d0' d1' x0' x1' y0' y1'
  obtain ⟨W, hW⟩ : ∃ W, (w.alloc (.cells #[.int .i64 X, .int .i64 Y, .int .i64 D] 23)).alloc (.cells #[.int .i64 X', .int .i64 Y', .int .i64 D'] 23) = W := ⟨_, rfl⟩
  have HK := Lib.hid (show Below w.heap.size w W by rw [← hW]; exact ((Below.refl _ w).alloc (Nat.le_refl _) _).alloc (by simp) _)
  have HA := Lib.hid (show P3 23 W w.heap.size (.int .i64 X) (.int .i64 Y) (.int .i64 D) by rw [← hW]; exact (P3.lit w _ _ _ _ ).new ((Below.refl _ _).alloc (Nat.le_refl _) _))
  have HB := Lib.hid (show P3 23 W (w.heap.size + 1) (.int .i64 X') (.int .i64 Y') (.int .i64 D') by
    rw [← hW]
    have h0 := P3.lit (w.alloc (.cells #[.int .i64 X, .int .i64 Y, .int .i64 D] 23)) 23 (.int .i64 X') (.int .i64 Y') (.int .i64 D')
    rw [World.size_alloc] at h0
    exact h0)
  obtain ⟨a0, a1, a2⟩ := HA.out.cells
  obtain ⟨b0, b1, b2⟩ := HB.out.cells
  obtain ⟨k, hk⟩ : ∃ k, cmpI (X * D') (X' * D) = k := ⟨_, rfl⟩
  have HKV := Lib.hid hk
  clear hk
  go_enter Try.func13, Try.ntmps13
  go_wp2_with fail
  refine (rsign_any _ W).mono ?_
  rw [cmpI_sub, HKV.out]
  rintro e w1 ⟨rfl, rfl⟩
  by_cases h0 : k = 0
  · subst h0
    have HV := Lib.hid (show rcV X Y D X' Y' D' = cmpI (Y * D') (Y' * D) from if_pos HKV.out)
    go_wp2_with fail
    refine (rsign_any _ W).mono ?_
    rw [cmpI_sub]
    rintro e w1 ⟨rfl, rfl⟩
    go_wp2_with fail
    go_ret
    exact ⟨by rw [HV.out]; rfl, HK.out⟩
  · have HV := Lib.hid (show rcV X Y D X' Y' D' = k by unfold rcV; rw [HKV.out, if_neg h0])
    have h1 : (k == 0) = false := by simp [h0]
    clear h0
    go_wp2_with fail
    go_ret
    exact ⟨by rw [HV.out]; rfl, HK.out⟩
end Go.Proofs.Ytfmccalkfagafaa


namespace Go.Proofs.Ytfmccalkfagafaa
open Go.RowKit
attribute [local go_sem ↓] Go.wp_at_zero Go.wp_at_succ
/-- Points of the reference, one behind the other. -/
def vp3 : List (Int × Int × Int) → List Value
  | [] => []
  | p :: l => .int .i64 p.1 :: .int .i64 p.2.1 :: .int .i64 p.2.2 :: vp3 l
theorem vp3_get {l : List (Int × Int × Int)} {i : Nat} {p : Int × Int × Int} (h : l[i]? = some p) : (vp3 l)[i * 3]? = some (.int .i64 p.1) ∧ (vp3 l)[i * 3 + 1]? = some (.int .i64 p.2.1) ∧ (vp3 l)[i * 3 + 2]? = some (.int .i64 p.2.2) := by
  induction l generalizing i with
  | nil => simp at h
  | cons q l ih =>
    match i with
    | 0 => simp at h; subst h; exact ⟨rfl, rfl, rfl⟩
    | i + 1 =>
      have := ih (i := i) (by simpa using h)
      rw [show (i + 1) * 3 = i * 3 + 1 + 1 + 1 by omega]
      exact this
theorem BK.get3 {t : TypeId} {w : World} {b : Nat} {l : List (Int × Int × Int)} (h : BK t w b (vp3 l).toArray) {i : Nat} {x y d : Int} (hi : l[i]? = some (x, y, d)) : w.cell? ⟨b, i * 3, none⟩ = some (.int .i64 x) ∧ w.cell? ⟨b, i * 3 + 1, none⟩ = some (.int .i64 y) ∧ w.cell? ⟨b, i * 3 + 2, none⟩ = some (.int .i64 d) := by
  obtain ⟨e1, e2, e3⟩ := vp3_get hi
  have hc := fun o => cell_of_row w b o _ t (0, 0) h
  refine ⟨?_, ?_, ?_⟩
  · rw [hc]; simpa using e1
  · rw [hc]; simpa using e2
  · rw [hc]; simpa using e3
end Go.Proofs.Ytfmccalkfagafaa

