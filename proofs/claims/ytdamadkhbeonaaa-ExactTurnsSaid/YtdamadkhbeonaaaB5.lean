/- Texts, powers, helpers. Conditions: as each statement has them. -/
import Derived.Test.YtdamadkhbeonaaaB4
import Derived.Test.YtdamadkhbeonaaaB1
import Derived.Deep.RegionHeld3
namespace Go.Proofs.Ytdamadkhbeonaaa
open Go.RowKit
attribute [local go_sem ↓] Go.wp_at_zero Go.wp_at_succ

theorem str_get (l : List UInt8) (j : Nat) (h : j < (ByteArray.mk l.toArray).size) : (ByteArray.mk l.toArray)[j]'h = l[j]'h := rfl
attribute [local go_sem] str_get
end Go.Proofs.Ytdamadkhbeonaaa

namespace Go.Proofs.Ytdamadkhbeonaaa
open Go.RowKit
attribute [local go_sem ↓] Go.wp_at_zero Go.wp_at_succ
attribute [local go_sem] str_get

/-- The state of the loop: i bytes are read, m of them not yet laid into the words. -/
def GrpInv (D : List UInt8) (i b g : Nat) (o : List Nat) : Prop := val 4294967296 o * b + g = dval (D.take i) ∧ g < b ∧ (∃ m, m ≤ 8 ∧ b = 10 ^ m) ∧ (i = D.length → b = 1)
theorem pow_le8 {m : Nat} (h : m ≤ 8) : 0 < 10 ^ m ∧ 10 ^ m ≤ 100000000 ∧ (10 ^ m * 10 = 1000000000 → m = 8) ∧ (¬ 10 ^ m * 10 = 1000000000 → m ≤ 7) := by
  have : m = 0 ∨ m = 1 ∨ m = 2 ∨ m = 3 ∨ m = 4 ∨ m = 5 ∨ m = 6 ∨ m = 7 ∨ m = 8 := by omega
  rcases this with rfl | rfl | rfl | rfl | rfl | rfl | rfl | rfl | rfl <;> decide
theorem GrpInv.start (D : List UInt8) : GrpInv D 0 1 0 [] := ⟨rfl, by decide, ⟨0, by decide, rfl⟩, fun _ => rfl⟩
theorem GrpInv.done {D : List UInt8} {b g : Nat} {o : List Nat} (h : GrpInv D D.length b g o) : val 4294967296 o = dval D := by
  obtain ⟨h1, h2, _, h4⟩ := h
  have := h4 rfl
  subst this
  rw [List.take_length] at h1
  omega
theorem take_dval {D : List UInt8} {i c : Nat} (hi : i < D.length) (hc : (D[i]'hi).toNat = 48 + c) : dval (D.take (i + 1)) = 10 * dval (D.take i) + c := by
  rw [List.take_succ_eq_append_getElem hi, dval_snoc, hc]
  omega
theorem GrpInv.next {D : List UInt8} {i b g c : Nat} {o : List Nat} (h : GrpInv D i b g o) (hi : i < D.length) (hc : (D[i]'hi).toNat = 48 + c) (hc9 : c ≤ 9) (h9 : ¬ b * 10 = 1000000000) (hl : ¬ i = D.length - 1) : GrpInv D (i + 1) (b * 10) (g * 10 + c) o := by
  obtain ⟨h1, h2, ⟨m, hm, rfl⟩, _⟩ := h
  have h8 := (pow_le8 hm).2.2.2 h9
  refine ⟨?_, by omega, ⟨m + 1, by omega, by rw [Nat.pow_succ]⟩, fun e => by omega⟩
  rw [take_dval hi hc, ← h1, Nat.mul_add, Nat.mul_comm 10 (_ * _), Nat.mul_assoc]
  omega
end Go.Proofs.Ytdamadkhbeonaaa

namespace Go.Proofs.Ytdamadkhbeonaaa
open Go.RowKit
attribute [local go_sem ↓] Go.wp_at_zero Go.wp_at_succ

/-- The first k and the last k of a list have changed places. -/
def Swp (L : List Int) (k : Nat) (ys : List Int) : Prop := ys.length = L.length ∧ ∀ i, i < L.length → ys.getD i 0 = if i < k ∨ L.length ≤ i + k then L.getD (L.length - 1 - i) 0 else L.getD i 0
theorem Swp.start (L : List Int) : Swp L 0 L := ⟨rfl, fun i hi => by rw [if_neg (by omega)]⟩
theorem Swp.next {L ys : List Int} {k j : Nat} (h : Swp L k ys) (hj : L.length = k + j + 1) (hkj : k < j) : Swp L (k + 1) ((ys.set k (ys.getD j 0)).set j (ys.getD k 0)) := by
  obtain ⟨h1, h2⟩ := h
  refine ⟨by simpa using h1, fun i hi => ?_⟩
  have hk := h2 k (by omega)
  have hjj := h2 j (by omega)
  rw [if_neg (by omega)] at hk hjj
  rw [List.getD_eq_getElem?_getD, List.getElem?_set, List.getElem?_set]
  by_cases e1 : j = i
  · subst e1
    rw [if_pos rfl, if_pos (by simp; omega), Option.getD_some, if_pos (by omega), hk, show L.length - 1 - j = k by omega]
  · rw [if_neg e1]
    by_cases e2 : k = i
    · subst e2
      rw [if_pos rfl, if_pos (by omega), Option.getD_some, if_pos (by omega), hjj, show L.length - 1 - k = j by omega]
    · rw [if_neg e2, ← List.getD_eq_getElem?_getD, h2 i hi]
      by_cases e3 : i < k ∨ L.length ≤ i + k
      · rw [if_pos e3, if_pos (by omega)]
      · rw [if_neg e3, if_neg (by omega)]
theorem Swp.done {L ys : List Int} {k : Nat} (h : Swp L k ys) (hk : L.length ≤ k + k + 1) : ys = L.reverse := by
  obtain ⟨h1, h2⟩ := h
  refine List.ext_getElem (by simpa using h1) fun i hi hi' => ?_
  have h3 := h2 i (by omega)
  rw [List.getD_eq_getElem?_getD, List.getElem?_eq_getElem hi, Option.getD_some] at h3
  rw [List.getElem_reverse, h3]
  split
  · rw [List.getD_eq_getElem?_getD, List.getElem?_eq_getElem (by omega), Option.getD_some]
  · rename_i hne
    have hl : i < L.length := by omega
    rw [List.getD_eq_getElem?_getD, List.getElem?_eq_getElem hl, Option.getD_some]
    congr 1
    omega
end Go.Proofs.Ytdamadkhbeonaaa

namespace Go.Proofs.Ytdamadkhbeonaaa
open Go.RowKit
attribute [local go_sem ↓] Go.wp_at_zero Go.wp_at_succ

/-- The digits of a number from its end, none of zero. -/
def rdz (v : Nat) : List UInt8 := if v = 0 then [] else (dec v).reverse
theorem rdz_pos {v : Nat} (h : 0 < v) : rdz v = dig8 (v % 10) :: rdz (v / 10) := by
  unfold rdz
  rw [if_neg (by omega)]
  by_cases h10 : v < 10
  · rw [dec_lt h10, if_pos (by omega), show v % 10 = v by omega]
    rfl
  · rw [dec_ge (by omega), if_neg (by omega), List.reverse_append]
    rfl
/-- Some digits of a group are out: g and L are left. -/
def InnV (X L g m : Nat) (T : List UInt8) : Prop := m ≤ 9 ∧ g < 10 ^ (9 - m) ∧ T ++ rdz (g + L * 10 ^ (9 - m)) = rdz X
theorem InnV.start {X L : Nat} {T : List UInt8} (h : T ++ rdz L = rdz X) : InnV X (L / 1000000000) (L % 1000000000) 0 T := by
  refine ⟨by decide, Nat.mod_lt _ (by decide), ?_⟩
  rw [show L % 1000000000 + L / 1000000000 * 10 ^ (9 - 0) = L by rw [show 10 ^ (9 - 0) = 1000000000 from rfl]; omega]
  exact h
theorem InnV.next {X L g m : Nat} {T : List UInt8} (h : InnV X L g m T) (hm : m < 9) (hp : 0 < L ∨ 0 < g) : InnV X L (g / 10) (m + 1) (T ++ [dig8 (g % 10)]) := by
  obtain ⟨_, h2, h3⟩ := h
  obtain ⟨q, hq⟩ : ∃ q, 9 - m = q + 1 := ⟨8 - m, by omega⟩
  have hq' : 9 - (m + 1) = q := by omega
  rw [hq, Nat.pow_succ] at h2 h3
  have hP : 0 < 10 ^ q := Nat.pow_pos (by decide)
  have hV : 0 < g + L * (10 ^ q * 10) := by
    rcases hp with h | h
    · have : 0 < L * (10 ^ q * 10) := Nat.mul_pos h (by omega)
      omega
    · omega
  refine ⟨by omega, by rw [hq']; omega, ?_⟩
  rw [rdz_pos hV] at h3
  rw [hq', ← h3, List.append_assoc, List.singleton_append, ← Nat.mul_assoc]
  rw [show (g + L * 10 ^ q * 10) % 10 = g % 10 by omega, show (g + L * 10 ^ q * 10) / 10 = g / 10 + L * 10 ^ q by omega]
theorem InnV.done {X L g m : Nat} {T : List UInt8} (h : InnV X L g m T) (hd : m = 9 ∨ (L = 0 ∧ g = 0)) : T ++ rdz L = rdz X := by
  obtain ⟨_, h2, h3⟩ := h
  rcases hd with rfl | ⟨rfl, rfl⟩
  · simp at h2
    subst h2
    simpa using h3
  · simpa using h3
end Go.Proofs.Ytdamadkhbeonaaa

namespace Go.Proofs.Ytdamadkhbeonaaa
open Go.RowKit
attribute [local go_sem ↓] Go.wp_at_zero Go.wp_at_succ
attribute [local go_sem] str_get

/-- Zeros laid in front. -/
def Pad (d : Nat) (S : List UInt8) : Prop := S.length ≤ 4 ∧ ∃ k, S = List.replicate k (dig8 0) ++ dec d
theorem Pad.start {d : Nat} (h : d < 10000) : Pad d (dec d) := ⟨(dec_len (by decide)).2 h, 0, rfl⟩
theorem Pad.next {d : Nat} {S : List UInt8} (h : Pad d S) (hl : S.length < 4) : Pad d (48 :: S) := by
  obtain ⟨_, k, rfl⟩ := h
  exact ⟨by rw [List.length_cons]; omega, k + 1, rfl⟩
theorem Pad.done {d : Nat} {S : List UInt8} (h : Pad d S) (hd : d < 10000) (hl : ¬ S.length < 4) : S = pad4 d := by
  obtain ⟨h4, k, rfl⟩ := h
  rw [← pad4_dec hd]
  rw [List.length_append, List.length_replicate] at hl h4
  rw [show 4 - (dec d).length = k by omega]
end Go.Proofs.Ytdamadkhbeonaaa

namespace Go.Proofs.Ytdamadkhbeonaaa
open Go.RowKit
attribute [local go_sem ↓] Go.wp_at_zero Go.wp_at_succ

theorem lim_two : lim = 2 ^ (32 * limE) := by
  unfold lim
  rw [Nat.pow_mul]
end Go.Proofs.Ytdamadkhbeonaaa

namespace Go.Proofs.Ytdamadkhbeonaaa
open Go.RowKit
attribute [local go_sem ↓] Go.wp_at_zero Go.wp_at_succ

theorem bt {a b c : World} (h1 : Below a.heap.size a b) (h2 : Below b.heap.size b c) : Below a.heap.size a c := h1.trans (h2.mono h1.size)
end Go.Proofs.Ytdamadkhbeonaaa

namespace Go.Proofs.Ytdamadkhbeonaaa
open Go.RowKit
attribute [local go_sem ↓] Go.wp_at_zero Go.wp_at_succ
/-- The state of the loop of Power. -/
def PowInv (k q P Q : Nat) : Prop := P * Q ^ q = 2 ^ k ∧ 0 < P ∧ 0 < Q ∧ Q ≤ 2 ^ (2 * k + 1)
theorem PowInv.start (k : Nat) : PowInv k k 1 2 := ⟨by rw [Nat.one_mul], by decide, by decide, by
  rw [Nat.pow_succ]
  have : 0 < 2 ^ (2 * k) := Nat.pow_pos (by decide)
  omega⟩
theorem PowInv.le {k q P Q : Nat} (h : PowInv k q P Q) : P ≤ 2 ^ k ∧ (0 < q → Q ≤ 2 ^ k) := by
  obtain ⟨h1, h2, h3, _⟩ := h
  have hp : 0 < Q ^ q := Nat.pow_pos h3
  refine ⟨?_, fun hq => ?_⟩
  · rw [← h1]; exact Nat.le_mul_of_pos_right _ hp
  · rw [← h1]
    obtain ⟨r, rfl⟩ : ∃ r, q = r + 1 := ⟨q - 1, by omega⟩
    rw [Nat.pow_succ]
    calc Q ≤ Q ^ r * Q := Nat.le_mul_of_pos_left _ (Nat.pow_pos h3)
      _ ≤ P * (Q ^ r * Q) := Nat.le_mul_of_pos_left _ h2
theorem PowInv.sq {k q P Q : Nat} (h : PowInv k q P Q) (hq : 0 < q) : Q * Q ≤ 2 ^ (2 * k + 1) := by
  have h1 := h.le.2 hq
  have h2 : Q * Q ≤ 2 ^ k * 2 ^ k := Nat.mul_le_mul h1 h1
  rw [← Nat.pow_add] at h2
  exact Nat.le_trans h2 (Nat.pow_le_pow_right (by decide) (by omega))
theorem PowInv.odd {k q P Q : Nat} (h : PowInv k q P Q) (hq : q % 2 = 1) : PowInv k (q / 2) (P * Q) (Q * Q) := by
  have hs := h.sq (by omega)
  obtain ⟨h1, h2, h3, _⟩ := h
  refine ⟨?_, Nat.mul_pos h2 h3, Nat.mul_pos h3 h3, hs⟩
  rw [← h1, ← Nat.pow_two, ← Nat.pow_mul, Nat.mul_assoc, ← Nat.pow_succ', show (2 * (q / 2)).succ = q by omega]
theorem RNo.box {ok : Nat → Prop} {w : World} {s : Bool} {A : Option Addr} {n c : Nat} {x : Int} {t : TypeId} {B : Nat} {z0 z1 : Value} (h : RNo ok w s A n c x) (hp : P2 t w B z0 z1) (h0 : isI z0 = false) (h1 : isI z1 = false) (u0 u1 : Value) : RNo ok ((w.setCell ⟨B, 0, none⟩ u0).setCell ⟨B, 1, none⟩ u1) s A n c x := ⟨h.1, h.2.1, h.2.2.box hp h0 h1 u0 u1⟩
end Go.Proofs.Ytdamadkhbeonaaa

namespace Go.Proofs.Ytdamadkhbeonaaa
open Go.RowKit
attribute [local go_sem ↓] Go.wp_at_zero Go.wp_at_succ
end Go.Proofs.Ytdamadkhbeonaaa

namespace Go.Proofs.Ytdamadkhbeonaaa
open Go.RowKit
attribute [local go_sem ↓] Go.wp_at_zero Go.wp_at_succ
/-- A slice of ints that came in, all of them ints. -/
def Got (w : World) (sv : Value) (xs : List Int) : Prop := Src .i64 w sv xs ∧ xs.length ≤ maxLen ∧ ∀ x ∈ xs, (Lit.int .i64 x).wf = true
theorem src_new {k : IntKind} {w w' : World} {sv : Value} {zs : List Int} (h : Src k w sv zs) (hb : Below w.heap.size w w') : Src k w' sv zs := by
  rcases h with h | ⟨ad, c, h1, h2, h3⟩
  · exact .inl h
  · exact .inr ⟨ad, c, h1, h2, fun j v hj => (hb.cell (World.block_lt_of_cell? w _ (h3 j v hj))).trans (h3 j v hj)⟩
theorem Got.new {w w' : World} {sv : Value} {zs : List Int} (h : Got w sv zs) (hb : Below w.heap.size w w') : Got w' sv zs := ⟨src_new h.1 hb, h.2⟩
theorem src_of_row {k : IntKind} {w : World} {a : Option Addr} {len cap : Nat} {zs : List Int}
    (h : (a = none ∧ len = 0 ∧ cap = 0 ∧ zs = []) ∨ ∃ x, a = some x ∧ len ≤ cap ∧ cap ≤ maxLen ∧ zs.length = cap ∧ (∀ i, i < zs.length → w.cell? (x.add i) = some (.int k (zs.getD i 0))) ∧ ∀ n ∈ zs, (Lit.int k n).wf = true) :
    Src k w (.slice a len cap) (zs.take len) ∧ (zs.take len).length ≤ maxLen ∧ ∀ n ∈ zs.take len, (Lit.int k n).wf = true := by
  rcases h with ⟨rfl, rfl, rfl, rfl⟩ | ⟨x, rfl, h1, h2, h3, h4, h5⟩
  · exact ⟨.inl ⟨rfl, rfl⟩, by simp, fun n hn => by simp at hn⟩
  · have hl : (zs.take len).length = len := by rw [List.length_take]; omega
    refine ⟨.inr ⟨x, cap, by rw [hl], by omega, fun j v hj => ?_⟩, by omega, fun n hn => h5 n (List.mem_of_mem_take hn)⟩
    have hjl : j < zs.length := by have := (List.getElem?_eq_some_iff.1 hj).1; omega
    rw [List.getElem?_take] at hj
    split at hj
    · have := h4 j hjl
      rw [List.getD_eq_getElem?_getD, hj] at this
      exact this
    · cases hj

def RowI (k : IntKind) (w : World) (a : Option Addr) (len cap : Nat) (zs : List Int) : Prop :=
  (a = none ∧ len = 0 ∧ cap = 0 ∧ zs = []) ∨ ∃ x, a = some x ∧ len ≤ cap ∧ cap ≤ maxLen ∧ zs.length = cap ∧ (∀ i, i < zs.length → w.cell? (x.add i) = some (.int k (zs.getD i 0))) ∧ ∀ n ∈ zs, (Lit.int k n).wf = true
theorem RowI.open_ {k : IntKind} {w : World} {a : Option Addr} {len cap : Nat} {zs : List Int} (h : RowI k w a len cap zs) :
    ∃ ls : List Int, ls.length = len ∧ len ≤ maxLen ∧ (∀ x ∈ ls, (Lit.int k x).wf = true) ∧ Src k w (.slice a len cap) ls := by
  obtain ⟨h1, h2, h3⟩ := src_of_row h
  have hl : (zs.take len).length = len := by
    rcases h with ⟨_, rfl, _, rfl⟩ | ⟨x, _, h4, h5, h6, _⟩
    · rfl
    · rw [List.length_take]; omega
  exact ⟨zs.take len, hl, by rw [← hl]; exact h2, h3, h1⟩

theorem two_lim {x : Int} {k : Nat} (h : x.natAbs < 2 ^ k) (hk : k ≤ 32 * limE) : x.natAbs < lim := by
  rw [lim_two]
  exact Nat.lt_of_lt_of_le h (Nat.pow_le_pow_right (by decide) hk)
theorem sum_two {x y : Int} {k : Nat} (hx : x.natAbs < 2 ^ k) (hy : y.natAbs < 2 ^ k) : (x + y).natAbs < 2 ^ (k + 1) ∧ (x - y).natAbs < 2 ^ (k + 1) := by
  rw [Nat.pow_succ]
  generalize 2 ^ k = B at *
  omega
/-- 2 to a power, never evaluated. -/
def B2 (k : Nat) : Nat := 2 ^ k
theorem B2.le {x : Int} {j k : Nat} (h : x.natAbs < B2 j) (hk : j ≤ k) : x.natAbs < B2 k := Nat.lt_of_lt_of_le h (Nat.pow_le_pow_right (by decide) hk)
theorem B2.add {x y : Int} {k : Nat} (hx : x.natAbs < B2 k) (hy : y.natAbs < B2 k) : (x + y).natAbs < B2 (k + 1) := (sum_two hx hy).1
theorem B2.neg {x : Int} {k : Nat} (hx : x.natAbs < B2 k) : (-x).natAbs < B2 k := by rw [Int.natAbs_neg]; exact hx
theorem B2.lim {x : Int} {k : Nat} (h : x.natAbs < B2 k) (hk : k ≤ 32 * limE) : x.natAbs < lim := two_lim h hk
theorem cmpI_same {a b : Int} (h : a = b) : cmpI a b = 0 := by subst h; unfold cmpI; rw [if_neg (by omega), if_neg (by omega)]
theorem cmpI_less {a b : Int} (h : a < b) : cmpI a b = -1 := by unfold cmpI; rw [if_pos h]
end Go.Proofs.Ytdamadkhbeonaaa
namespace Go.Proofs.Ytdamadkhbeonaaa
open Go.RowKit
theorem put_some (t : List Value) (ds : List Deferred) (d : Nat) (v : Value) : Act.put ⟨t.toArray, ds⟩ (some d) v = ⟨(t.set d v).toArray, ds⟩ := by
  simp [Act.put]
section
variable {P : Program} {ops : Array Oper} {Q : Exit → Act → World → Prop} {md : Region.Mode} {S : World → Prop}
/-- One operation is taken first (the side conditions by computation). -/
theorem tk (i : Nat) (v : Value) {oi : Oper} {fuel : Nat} {listed : Array Bool} {a : Act} {w : World}
    (hy : ∀ w, S w → (execOp a.eval oi).run P w = .ok (.value v) w)
    (h : wpAnyH P md ops Q S fuel (listed.setIfInBounds i true) (a.put oi.dst v) w)
    (hi : ops[i]? = some oi := by exact rfl) (hs : Region.noSelect ops = true := by kernel_rfl) (hf : Region.free md ops listed i = true := by kernel_rfl) (hr : (Region.ready md ops listed).contains i = true := by kernel_rfl)
    (hQ : ∀ c a w, Q (.panic c) (a.put oi.dst v) w → Q (.panic c) a w := by exact fun _ _ _ h => h) (hw : Region.wanted oi (yielded ops a.tmps) = true := by kernel_rfl) (hS : S w := by assumption) : wpAnyH P md ops Q S (fuel + 1) listed a w :=
  wpAnyH_take hi hs hf hr hQ (Or.inl ⟨hw, hy⟩) hS h
theorem tq (i : Nat) {v : Value} {oi : Oper} {fuel : Nat} {listed : Array Bool} {a : Act} {w : World}
    (h : wpAnyH P md ops Q S fuel (listed.setIfInBounds i true) (a.put oi.dst v) w)
    (hi : ops[i]? = some oi := by exact rfl) (hs : Region.noSelect ops = true := by kernel_rfl) (hf : Region.free md ops listed i = true := by kernel_rfl) (hr : (Region.ready md ops listed).contains i = true := by kernel_rfl)
    (hQ : ∀ c a w, Q (.panic c) (a.put oi.dst v) w → Q (.panic c) a w := by exact fun _ _ _ h => h) (hw : Region.wanted oi (yielded ops a.tmps) = true := by kernel_rfl) (hS : S w := by assumption)
    (hy : ∀ w, S w → (execOp a.eval oi).run P w = .ok (.value v) w := by intro w hSw; (try dsimp only at hSw); go_simp; all_goals (with_reducible rfl)) : wpAnyH P md ops Q S (fuel + 1) listed a w :=
  wpAnyH_take hi hs hf hr hQ (Or.inl ⟨hw, hy⟩) hS h
end
/-- A new name of a thing. -/
theorem nmz {α : Sort _} (a : α) : ∃ z, a = z := ⟨a, rfl⟩
theorem PT : (∀ (t : List Value) ds (d : Nat) (v : Value), Act.put ⟨t.toArray, ds⟩ (some d) v = ⟨(t.set d v).toArray, ds⟩) ∧ (∀ t ds v, Act.put ⟨t, ds⟩ none v = ⟨t, ds⟩) ∧ (∀ (α : Type) (l : List α) (i : Nat) (h : i < l.toArray.size), l.toArray[i] = l[i]'(by simpa using h)) ∧ (∀ (α : Type) (l : List α) (x : α) (h : 0 < (x :: l).length), (x :: l)[0] = x) ∧ (∀ (α : Type) (l : List α) (x : α) (i : Nat) (h : i + 1 < (x :: l).length), (x :: l)[i + 1] = l[i]'(by simpa using h)) ∧ (∀ (α : Type) (l : List α) (i : Nat) (x : α), l.toArray.setIfInBounds i x = (l.set i x).toArray) ∧ (∀ (α : Type) (l : List α) (x y : α), (y :: l).set 0 x = x :: l) ∧ (∀ (α : Type) (l : List α) (i : Nat) (x y : α), (y :: l).set (i + 1) x = y :: l.set i x) := by
  refine ⟨put_some, fun _ _ _ => rfl, ?_, ?_, ?_, ?_, ?_, ?_⟩ <;> intros <;> simp
end Go.Proofs.Ytdamadkhbeonaaa
