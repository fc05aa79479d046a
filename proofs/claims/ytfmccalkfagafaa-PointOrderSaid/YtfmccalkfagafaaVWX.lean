/- The writer of package wire, for the main seat. -/
import Derived.Lib.Hide
import Derived.Lib.SliceRun
import Derived.LoopTactic
import Derived.Outline
import Derived.RangeFuncBox
import Derived.WalkKit
import Derived.WalkLawsBesides
import Derived.WalkSpells
import Derived.Test.YtfmccalkfagafaaVX
namespace Go.Proofs.Ytfmccalkfagafaa
open Go.RowKit
theorem byte_info : (Try.prog.info? 5).map (fun i => (i.zero, i.size, i.bytes)) = some (some (.int .u8 0), 1, 1) := by kernel_rfl
/-- A new slice with a list of integers in it, in memory of the call's own. -/
def Fresh (k : IntKind) (t : TypeId) (xs : List Int) (w : World) (e : Ending) (w' : World) : Prop :=
  ∃ a c, e = .returned (.slice a xs.length c) ∧ w'.ownsRow w.heap.size t 1 (.slice a xs.length c) xs.length (vs k xs) ∧ Below w.heap.size w w'

end Go.Proofs.Ytfmccalkfagafaa

/- Bits: the expressions of package wire over 64-bit and 8-bit numbers. Conditions: the numbers are in range. -/
namespace Go.Proofs.Ytfmccalkfagafaa
open Go.RowKit

theorem or128_nat : ∀ x : Nat, x < 256 → x ||| 128 = x % 128 + 128 := by decide +kernel
theorem or128 (x : Nat) (h : x < 256) : bits .or .u8 (x : Int) 128 = ((x % 128 + 128 : Nat) : Int) := by
  rw [show (128 : Int) = ((128 : Nat) : Int) from rfl, u8_or_nat x 128 h (by decide), or128_nat x h]
theorem or128' (x : Int) (h0 : 0 ≤ x) (h : x < 256) : bits .or .u8 x 128 = x % 128 + 128 := by
  obtain ⟨n, rfl⟩ := Int.eq_ofNat_of_zero_le h0
  rw [or128 n (by omega)]; omega
end Go.Proofs.Ytfmccalkfagafaa

/- Contracts of the program's writer: each method appends the encoding of its argument; below the writer's block all is as it was. -/
namespace Go.Proofs.Ytfmccalkfagafaa
open Go.RowKit

/-- A writer at block g that contains the bytes bs. -/
def Wr (w : World) (g : Nat) (bs : List UInt8) : Prop := ∃ a c, Boxed w g 81 (.slice a bs.length c) ∧ w.ownsRow g 5 1 (.slice a bs.length c) bs.length (vs .u8 (bI bs))
theorem bI_append (x y : List UInt8) : bI (x ++ y) = bI x ++ bI y := by simp [bI]
theorem vs_append (k : IntKind) (x y : List Int) : vs k (x ++ y) = vs k x ++ vs k y := by simp [vs]
theorem Wr.mk1 {W : World} {g k c : Nat} {bs : List UInt8} {a : Option Addr} {y : Int} {x : UInt8} (hk : bs.length = k) (hv : Boxed W g 81 (.slice a (k + 1) c))
    (hr : W.ownsRow g 5 1 (.slice a (k + 1) c) (k + 1) (vs .u8 (bI bs) ++ [.int .u8 y])) (hy : y = (x.toNat : Int)) : Wr W g (bs ++ [x]) := by
  subst hk hy
  refine ⟨a, c, ?_, ?_⟩
  · rw [List.length_append]; exact hv
  · rw [List.length_append, bI_append, vs_append]; exact hr
theorem Wr.mkL {W : World} {g k m c : Nat} {bs l : List UInt8} {a : Option Addr} (hk : bs.length = k) (hm : l.length = m) (hv : Boxed W g 81 (.slice a (k + m) c))
    (hr : W.ownsRow g 5 1 (.slice a (k + m) c) (k + m) (vs .u8 (bI bs) ++ vs .u8 (bI l))) : Wr W g (bs ++ l) := by
  subst hk hm
  refine ⟨a, c, ?_, ?_⟩
  · rw [List.length_append]; exact hv
  · rw [List.length_append, bI_append, vs_append]; exact hr
theorem Wr.kp {W W' : World} {t : Nat → Prop} {g : Nat} {bs : List UInt8} (h : Wr W g bs) (hk : Kp t W W') (ht : ∀ b, b < W.heap.size → g ≤ b → ¬ t b) : Wr W' g bs := by
  obtain ⟨a, c, hb, ho⟩ := h
  refine ⟨a, c, (hk.block g hb.lt (ht g hb.lt (Nat.le_refl _))).trans hb, ho.1, ?_⟩
  rcases ho.2 with h0 | ⟨b, cap, cur, h1, h2, h3, h4⟩
  · exact .inl h0
  · exact .inr ⟨b, cap, cur, h1, h2, (hk.block b (Array.getElem?_eq_some_iff.1 h3).1 (ht b (Array.getElem?_eq_some_iff.1 h3).1 h2)).trans h3, h4⟩
theorem Wr.new {W W' : World} {g : Nat} {bs : List UInt8} (h : Wr W g bs) (hb : Below W.heap.size W W') : Wr W' g bs := h.kp (t := fun _ => False) (Kp.new hb) fun _ _ _ e => e
theorem Wr.lt {W : World} {g : Nat} {bs : List UInt8} (h : Wr W g bs) : g < W.heap.size := by
  obtain ⟨a, c, hb, _⟩ := h
  exact hb.lt
/-- A new writer. -/
theorem Wr.zero (w : World) : Wr (w.alloc (.cells #[.slice none 0 0] 81)) w.heap.size [] :=
  ⟨none, 0, Boxed.new w _ _, World.ownsRow_nil _ _ _ _⟩

theorem appended0 {W w1 : World} {n₀ B : Nat} {t e : TypeId} {size : Nat} {v v' : Value} {k m : Nat} {xs ys : List Value}
    (hv : Boxed W B t v) (hte : t ≠ e) (hrow : W.ownsRow n₀ e size v k xs) (hn₀ : n₀ ≤ W.heap.size) (hB : n₀ ≤ B)
    (hown' : w1.ownsRow n₀ e size v' m ys) (hgrow : W.grownBy w1 v.ownBlock) :
    Boxed w1 B t v ∧ Boxed (w1.setCell ⟨B, 0, none⟩ v') B t v' ∧ (w1.setCell ⟨B, 0, none⟩ v').ownsRow n₀ e size v' m ys ∧ Below n₀ W (w1.setCell ⟨B, 0, none⟩ v') := by
  have hv1 : Boxed w1 B t v := hv.kept hgrow (hv.not_row hte hrow)
  exact ⟨hv1, hv1.set v', hown'.kept (grownBy_setCell' w1 B v') (.inr (hv1.not_row hte hown').symm), ((Below.refl n₀ W).grown hgrow hn₀ (own_block_ge hrow)).setCell (p := ⟨B, 0, none⟩) hB v'⟩
theorem bI_len (l : List UInt8) : (bI l).length = l.length := by simp [bI]

set_option maxHeartbeats 800000 in
theorem clone_any (l : List UInt8) (A : Option Addr) (m c : Nat) (ok : Nat → Prop) (w : World) (hm : l.length = m) (hml : m ≤ 2000000) (hr : In .u8 w ok (.slice A m c) (bI l)) :
    Calls Try.prog 72 #[.slice A m c] w (Fresh .u8 5 (bI l) w) := by
  obtain ⟨i0, hi0, hz0, hz1, hz2⟩ := info_parts byte_info
  have HM := Lib.hid hm
  have hnil := fun W : World => Lib.run_eql_slice_nil (P := Try.prog) W 36 5 A m c 0 0 Try.underlying36
  have HO2 := Lib.hid (show 0 + m ≤ maxLen by unfold maxLen; omega)
  have HO3 := Lib.hid (show (0 + m) * 1 ≤ 140737488355328 by omega)
  clear hm
  cases A with
  | none =>
    have hl : bI l = [] ∧ m = 0 ∧ c = 0 := by
      rcases hr with ⟨h, h0⟩ | ⟨b, off, c', h1, _⟩
      · injection h with _ h1 h2; exact ⟨h0, h1, h2⟩
      · injection h1 with h1; cases h1
    obtain ⟨hl, rfl, rfl⟩ := hl
    have HL := Lib.hid hl
    clear hl hr
    go_enter Try.func72, Try.ntmps72
    go_wp2
    go_ret
    refine ⟨none, 0, by rw [HL.out]; rfl, by rw [HL.out]; exact World.ownsRow_nil _ _ _ _, Below.refl _ _⟩
  | some ad =>
    have hown0 := World.ownsRow_made (base := w.heap.size) (e := 5) (size := 1) w #[] 0 (Nat.le_refl _) (by decide) rfl
    have HR := Lib.hid (hr.new (w' := w.alloc (.cells #[] 5)) ((Below.refl _ w).alloc (Nat.le_refl _) _))
    clear hr
    go_enter Try.func72, Try.ntmps72
    go_wp2_with (at_builtin; refine wpList_append_in rfl _ _ 36 rfl w.heap.size 5 i0 (.int .u8 0) 1 Try.underlying36 hi0 hz0 hz1 hz2 rfl _ _ _ rfl hown0 .u8 _ _ _ _ _ rfl HR.out HO2.out HO3.out (alloc_ge (Nat.le_refl _)) ?_; intro v' w2 hown' hgrow; obtain ⟨a3, c3, rfl⟩ := own_form hown')
    go_ret
    have hlen : (bI l).length = m := by rw [bI_len]; exact HM.out
    refine ⟨a3, c3, by rw [hlen]; rfl, ?_, ?_⟩
    · rw [hlen]
      simpa using hown'
    · exact ((Below.refl _ w).alloc (Nat.le_refl _) _).grown hgrow (by simp) (own_block_ge hown0)
set_option maxHeartbeats 800000 in
theorem wdone_any (g : Nat) (bs : List UInt8) (w : World) (h : Wr w g bs) (hl : bs.length ≤ 2000000) :
    Calls Try.prog 41 #[.pointer (some ⟨g, 0, none⟩)] w (Fresh .u8 5 (bI bs) w) := by
  obtain ⟨a2, c2, hbx2, hown2⟩ := h
  have hc := hbx2.cell
  have HI := Lib.hid (In.own hown2)
  go_enter Try.func41, Try.ntmps41
  go_wp2_with fail
  refine (clone_any bs _ _ _ _ w rfl hl HI.out).mono ?_
  rintro e w' ⟨a, c, rfl, hown', hb⟩
  go_wp2
  go_ret
  exact ⟨a, c, rfl, hown', hb⟩
end Go.Proofs.Ytfmccalkfagafaa

