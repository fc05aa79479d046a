/- Contracts of the program's writer: each method appends the encoding of its argument; below the writer's block all is as it was. -/
import Derived.WalkKit
import Derived.Outline
import Derived.WalkSpells
import Derived.WalkLawsBesides
import Derived.LoopTactic
import Derived.RangeFuncBox
import Derived.Lib.SliceRun
import Derived.Test.YtgcgifjfgmhhmaaWMem
import Derived.Test.YtgcgifjfgmhhmaaWBits
import Derived.Test.YtgcgifjfgmhhmaaBas
import Derived.Lib.Hide
namespace Go.Proofs.Ytgcgifjfgmhhmaa
open Go.RowKit

/-- A writer at block g that contains the bytes bs. -/
def Wr (w : World) (g : Nat) (bs : List UInt8) : Prop := ∃ a c, Boxed w g 32 (.slice a bs.length c) ∧ w.ownsRow g 5 1 (.slice a bs.length c) bs.length (vs .u8 (bI bs))
theorem bI_append (x y : List UInt8) : bI (x ++ y) = bI x ++ bI y := by simp [bI]
theorem vs_append (k : IntKind) (x y : List Int) : vs k (x ++ y) = vs k x ++ vs k y := by simp [vs]
theorem Wr.mk1 {W : World} {g k c : Nat} {bs : List UInt8} {a : Option Addr} {y : Int} {x : UInt8} (hk : bs.length = k) (hv : Boxed W g 32 (.slice a (k + 1) c))
    (hr : W.ownsRow g 5 1 (.slice a (k + 1) c) (k + 1) (vs .u8 (bI bs) ++ [.int .u8 y])) (hy : y = (x.toNat : Int)) : Wr W g (bs ++ [x]) := by
  subst hk hy
  refine ⟨a, c, ?_, ?_⟩
  · rw [List.length_append]; exact hv
  · rw [List.length_append, bI_append, vs_append]; exact hr
theorem Wr.mkL {W : World} {g k m c : Nat} {bs l : List UInt8} {a : Option Addr} (hk : bs.length = k) (hm : l.length = m) (hv : Boxed W g 32 (.slice a (k + m) c))
    (hr : W.ownsRow g 5 1 (.slice a (k + m) c) (k + m) (vs .u8 (bI bs) ++ vs .u8 (bI l))) : Wr W g (bs ++ l) := by
  subst hk hm
  refine ⟨a, c, ?_, ?_⟩
  · rw [List.length_append]; exact hv
  · rw [List.length_append, bI_append, vs_append]; exact hr
theorem Wr.kp {W W' : World} {t : Nat → Prop} {g : Nat} {bs : List UInt8} (h : Wr W g bs) (hk : Kp t W W') (ht : ∀ b, b < W.heap.size → g ≤ b → ¬ t b) : Wr W' g bs := by
  obtain ⟨a, c, hb, ho⟩ := h
  refine ⟨a, c, (hk.block g hb.lt (ht g hb.lt (Nat.le_refl _))).trans hb, ho.1, ?_⟩
  rcases ho.2 with h0 | ⟨b, cap, cur, h1, h2, h3, h4⟩
  · exact .inl h0
  · exact .inr ⟨b, cap, cur, h1, h2, (hk.block b (Array.getElem?_eq_some_iff.1 h3).1 (ht b (Array.getElem?_eq_some_iff.1 h3).1 h2)).trans h3, h4⟩
theorem Wr.new {W W' : World} {g : Nat} {bs : List UInt8} (h : Wr W g bs) (hb : Below W.heap.size W W') : Wr W' g bs := h.kp (t := fun _ => False) (Kp.new hb) fun _ _ _ e => e
theorem Wr.lt {W : World} {g : Nat} {bs : List UInt8} (h : Wr W g bs) : g < W.heap.size := by
  obtain ⟨a, c, hb, _⟩ := h
  exact hb.lt
/-- A new writer. -/
theorem Wr.zero (w : World) : Wr (w.alloc (.cells #[.slice none 0 0] 32)) w.heap.size [] :=
  ⟨none, 0, Boxed.new w _ _, World.ownsRow_nil _ _ _ _⟩

set_option maxHeartbeats 800000 in
theorem wuint_any (n : Nat) (g : Nat) (bs : List UInt8) (w : World) (hn : n < 18446744073709551616) (h : Wr w g bs) (hl : bs.length ≤ 1000000) :
    Calls Try.prog 27 #[.pointer (some ⟨g, 0, none⟩), .int .u64 n] w fun e w' => e = .returned (.tuple #[]) ∧ Wr w' g (bs ++ uv n) ∧ Below g w w' := by
  obtain ⟨i0, hi0, hz0, hz1, hz2⟩ := info_parts byte_info
  have HW := Lib.hid h
  have HL := Lib.hid (uv_len10 hn)
  have HN := Lib.hid hn
  clear hn h
  go_enter Try.func27, Try.ntmps27
  go_wp2
  go_loopw [1] (fun i wr => ∃ (m : Nat) (pre : List UInt8), m ≤ n ∧ i = .int .u64 (m : Int) ∧ pre ++ uv m = uv n ∧ Wr wr g (bs ++ pre) ∧ Below g w wr) (fun i _ => (intOf i).toNat)
  case atStart => exact ⟨n, [], Nat.le_refl _, rfl, rfl, by rw [List.append_nil]; exact HW.out, Below.refl _ _⟩
  case round =>
    obtain ⟨m, pre, hm, rfl, hpre, ⟨a2, c2, hbx2, hown2⟩, hb⟩ := hrel
    have HP := Lib.hid hpre
    have hpl : pre.length ≤ 10 := by
      have := HL.out
      rw [← HP.out, List.length_append] at this
      omega
    have hc := hbx2.cell
    have hf := hbx2.frozen
    obtain ⟨k, hk⟩ : ∃ k, (bs ++ pre).length = k := ⟨_, rfl⟩
    rw [hk] at hc hbx2 hown2
    have hkl : k ≤ 1000010 := by rw [← hk, List.length_append]; omega
    have HK := Lib.hid hk
    obtain ⟨z, hz⟩ : ∃ z : Int, (m : Int) = z := ⟨_, rfl⟩
    have hzl : 0 ≤ z := by omega
    have hzr : z < 18446744073709551616 := by have := HN.out; omega
    rw [hz]
    have HZ := Lib.hid hz
    have HM := Lib.hid hm
    have HO2 := Lib.hid (show k + 1 ≤ maxLen by unfold maxLen; omega)
    have HO3 := Lib.hid (show (k + 1) * 1 ≤ 140737488355328 by omega)
    have HO4 := Lib.hid (show g ≤ wr.heap.size from Nat.le_of_lt hbx2.lt)
    by_cases h128 : 128 ≤ z
    · clear hk hpre hz hm
      go_wp2_with (at_builtin; refine wpList_append_own _ rfl _ _ 24 rfl g 5 i0 (.int .u8 0) 1 1 Try.underlying24 hi0 hz0 hz1 hz2 rfl (by decide) _ _ _ rfl (hown2.alloc _) ⟨wr.heap.size, 0, none⟩ 1 1 [_] rfl rfl (cell_one_new _ _ _) (one_cells _ _) HO2.out HO3.out (alloc_ge HO4.out) ?_; intro v' w1 hown' hgrow _; obtain ⟨g', cap', rfl⟩ := ownsRow_succ hown'; obtain ⟨hv1, hv2, hr2, _, hb2⟩ := hbx2.appended (by decide) hown2 HO4.out (Nat.le_refl _) hown' hgrow; have hc1 := hv1.cell; have hf1 := hv1.frozen)
      go_roundw
      case rel =>
        refine ⟨m / 128, pre ++ [UInt8.ofNat (m % 128 + 128)], ?_, ?_, ?_, ?_, hb.trans hb2⟩
        · have := HM.out; omega
        · have := HZ.out; exact congrArg _ (by omega)
        · rw [List.append_assoc, List.singleton_append, ← uv_ge (by have := HZ.out; omega)]; exact HP.out
        · rw [← List.append_assoc]
          refine Wr.mk1 HK.out hv2 hr2 ?_
          rw [or128' _ (by omega) (by omega), u8nat _ (by omega)]
          have := HZ.out
          omega
      case measure => simp [intOf]; omega
    · clear hk hpre hz hm
      go_wp2_with (at_builtin; refine wpList_append_own _ rfl _ _ 24 rfl g 5 i0 (.int .u8 0) 1 1 Try.underlying24 hi0 hz0 hz1 hz2 rfl (by decide) _ _ _ rfl (hown2.alloc _) ⟨wr.heap.size, 0, none⟩ 1 1 [_] rfl rfl (cell_one_new _ _ _) (one_cells _ _) HO2.out HO3.out (alloc_ge HO4.out) ?_; intro v' w1 hown' hgrow _; obtain ⟨g', cap', rfl⟩ := ownsRow_succ hown'; obtain ⟨hv1, hv2, hr2, _, hb2⟩ := hbx2.appended (by decide) hown2 HO4.out (Nat.le_refl _) hown' hgrow; have hc1 := hv1.cell; have hf1 := hv1.frozen)
      go_end0
      refine ⟨rfl, ?_, hb.trans hb2⟩
      rw [← HP.out, uv_lt (by have := HZ.out; omega), ← List.append_assoc]
      refine Wr.mk1 HK.out hv2 hr2 ?_
      have := HZ.out
      rw [u8nat _ (by omega)]
      omega
set_option maxHeartbeats 800000 in
theorem wint_any (n : Int) (g : Nat) (bs : List UInt8) (w : World) (hn : ok64 n) (h : Wr w g bs) (hl : bs.length ≤ 1000000) :
    Calls Try.prog 29 #[.pointer (some ⟨g, 0, none⟩), .int .i64 n] w fun e w' => e = .returned (.tuple #[]) ∧ Wr w' g (bs ++ uv (zz n)) ∧ Below g w w' := by
  obtain ⟨h1, h2⟩ := hn
  have HZ := Lib.hid (zz_lt h1 h2)
  have HP := Lib.hid (zz_prog n h1 h2)
  go_enter Try.func29, Try.ntmps29
  go_wp2_with fail
  rw [← i64_wrap64, HP.out]
  refine (wuint_any _ g bs w HZ.out h hl).mono ?_
  rintro e w' ⟨rfl, hw, hb⟩
  go_wp2
  go_end0
  exact ⟨rfl, hw, hb⟩
set_option maxHeartbeats 800000 in
theorem wbool_any (b : Bool) (g : Nat) (bs : List UInt8) (w : World) (h : Wr w g bs) (hl : bs.length ≤ 1000000) :
    Calls Try.prog 30 #[.pointer (some ⟨g, 0, none⟩), .bool b] w fun e w' => e = .returned (.tuple #[]) ∧ Wr w' g (bs ++ [if b then 1 else 0]) ∧ Below g w w' := by
  obtain ⟨i0, hi0, hz0, hz1, hz2⟩ := info_parts byte_info
  obtain ⟨a2, c2, hbx2, hown2⟩ := h
  have hc := hbx2.cell
  have hf := hbx2.frozen
  obtain ⟨k, hk⟩ : ∃ k, bs.length = k := ⟨_, rfl⟩
  rw [hk] at hc hbx2 hown2 hl
  have HK := Lib.hid hk
  have HO2 := Lib.hid (show k + 1 ≤ maxLen by unfold maxLen; omega)
  have HO3 := Lib.hid (show (k + 1) * 1 ≤ 140737488355328 by omega)
  have HO4 := Lib.hid (show g ≤ w.heap.size from Nat.le_of_lt hbx2.lt)
  clear hk
  cases b
  · go_enter Try.func30, Try.ntmps30
    go_wp2_with (at_builtin; refine wpList_append_own _ rfl _ _ 24 rfl g 5 i0 (.int .u8 0) 1 1 Try.underlying24 hi0 hz0 hz1 hz2 rfl (by decide) _ _ _ rfl (hown2.alloc _) ⟨w.heap.size, 0, none⟩ 1 1 [_] rfl rfl (cell_one_new _ _ _) (one_cells _ _) HO2.out HO3.out (alloc_ge HO4.out) ?_; intro v' w1 hown' hgrow _; obtain ⟨g', cap', rfl⟩ := ownsRow_succ hown'; obtain ⟨hv1, hv2, hr2, _, hb2⟩ := hbx2.appended (by decide) hown2 HO4.out (Nat.le_refl _) hown' hgrow; have hc1 := hv1.cell; have hf1 := hv1.frozen)
    go_end0
    exact ⟨rfl, Wr.mk1 HK.out hv2 hr2 rfl, hb2⟩
  · go_enter Try.func30, Try.ntmps30
    go_wp2_with (at_builtin; refine wpList_append_own _ rfl _ _ 24 rfl g 5 i0 (.int .u8 0) 1 1 Try.underlying24 hi0 hz0 hz1 hz2 rfl (by decide) _ _ _ rfl (hown2.alloc _) ⟨w.heap.size, 0, none⟩ 1 1 [_] rfl rfl (cell_one_new _ _ _) (one_cells _ _) HO2.out HO3.out (alloc_ge HO4.out) ?_; intro v' w1 hown' hgrow _; obtain ⟨g', cap', rfl⟩ := ownsRow_succ hown'; obtain ⟨hv1, hv2, hr2, _, hb2⟩ := hbx2.appended (by decide) hown2 HO4.out (Nat.le_refl _) hown' hgrow; have hc1 := hv1.cell; have hf1 := hv1.frozen)
    go_end0
    exact ⟨rfl, Wr.mk1 HK.out hv2 hr2 rfl, hb2⟩
theorem appended0 {W w1 : World} {n₀ B : Nat} {t e : TypeId} {size : Nat} {v v' : Value} {k m : Nat} {xs ys : List Value}
    (hv : Boxed W B t v) (hte : t ≠ e) (hrow : W.ownsRow n₀ e size v k xs) (hn₀ : n₀ ≤ W.heap.size) (hB : n₀ ≤ B)
    (hown' : w1.ownsRow n₀ e size v' m ys) (hgrow : W.grownBy w1 v.ownBlock) :
    Boxed w1 B t v ∧ Boxed (w1.setCell ⟨B, 0, none⟩ v') B t v' ∧ (w1.setCell ⟨B, 0, none⟩ v').ownsRow n₀ e size v' m ys ∧ Below n₀ W (w1.setCell ⟨B, 0, none⟩ v') := by
  have hv1 : Boxed w1 B t v := hv.kept hgrow (hv.not_row hte hrow)
  exact ⟨hv1, hv1.set v', hown'.kept (grownBy_setCell' w1 B v') (.inr (hv1.not_row hte hown').symm), ((Below.refl n₀ W).grown hgrow hn₀ (own_block_ge hrow)).setCell (p := ⟨B, 0, none⟩) hB v'⟩
theorem In.lt_below {k : IntKind} {w w' : World} {g : Nat} {sv : Value} {xs : List Int} (h : In k w (· < g) sv xs) (hb : Below g w w') (_hg : g ≤ w.heap.size) : In k w' (· < g) sv xs :=
  h.kp (t := (g ≤ ·)) (Kp.of_below hb fun _ _ h => h) fun _ _ hb => Nat.not_le_of_lt hb
theorem str_vs (s : ByteArray) : Lib.strCells s = vs .u8 (bI s.data.toList) := by simp [Lib.strCells, vs, bI, Function.comp_def]
theorem bI_len (l : List UInt8) : (bI l).length = l.length := by simp [bI]

set_option maxHeartbeats 800000 in
theorem wtext_any (s : ByteArray) (g : Nat) (bs : List UInt8) (w : World) (hs : s.size ≤ 1000) (h : Wr w g bs) (hl : bs.length ≤ 900000) :
    Calls Try.prog 38 #[.pointer (some ⟨g, 0, none⟩), .string s] w fun e w' => e = .returned (.tuple #[]) ∧ Wr w' g (bs ++ (uv s.size ++ s.data.toList)) ∧ Below g w w' := by
  obtain ⟨i0, hi0, hz0, hz1, hz2⟩ := info_parts byte_info
  have HU := Lib.hid (uv_len10 (n := s.size) (by omega))
  go_enter Try.func38, Try.ntmps38
  go_wp2_with fail
  refine (wuint_any s.size g bs w (by omega) h (by omega)).mono ?_
  rintro e w1 ⟨rfl, ⟨a2, c2, hbx2, hown2⟩, hb⟩
  have hc := hbx2.cell
  have hf := hbx2.frozen
  obtain ⟨k, hk⟩ : ∃ k, (bs ++ uv s.size).length = k := ⟨_, rfl⟩
  rw [hk] at hc hbx2 hown2
  have hkl : k ≤ 900010 := by rw [← hk, List.length_append]; have := HU.out; omega
  have HK := Lib.hid hk
  have HO2 := Lib.hid (show k + s.size ≤ maxLen by unfold maxLen; omega)
  have HO3 := Lib.hid (show k + s.size ≤ 140737488355328 by omega)
  have HO4 := Lib.hid (show g ≤ w1.heap.size from Nat.le_of_lt hbx2.lt)
  clear hk
  go_wp2_with (at_builtin; refine Lib.wpList_append_own_string _ rfl _ _ 24 9 rfl g 5 i0 Try.underlying24 Try.underlying9 hi0 hz0 hz1 hz2 _ _ _ rfl hown2 s rfl HO2.out HO3.out HO4.out ?_; intro v' w2 hown' hgrow _; obtain ⟨a3, c3, rfl⟩ := own_form hown'; obtain ⟨hv1, hv2, hr2, hb2⟩ := appended0 hbx2 (by decide) hown2 HO4.out (Nat.le_refl _) hown' hgrow; have hc1 := hv1.cell; have hf1 := hv1.frozen)
  go_end0
  refine ⟨rfl, ?_, hb.trans hb2⟩
  rw [← List.append_assoc]
  exact Wr.mkL HK.out (by simp) hv2 (by rw [str_vs] at hr2; exact hr2)
set_option maxHeartbeats 800000 in
theorem wraw_any (l : List UInt8) (A : Option Addr) (m c : Nat) (g : Nat) (bs : List UInt8) (w : World) (hm : l.length = m) (hml : m ≤ 1000) (hr : In .u8 w (· < g) (.slice A m c) (bI l)) (h : Wr w g bs) (hl : bs.length ≤ 900000) :
    Calls Try.prog 31 #[.pointer (some ⟨g, 0, none⟩), .slice A m c] w fun e w' => e = .returned (.tuple #[]) ∧ Wr w' g (bs ++ (uv l.length ++ l)) ∧ Below g w w' := by
  obtain ⟨i0, hi0, hz0, hz1, hz2⟩ := info_parts byte_info
  have HU := Lib.hid (uv_len10 (n := m) (by omega))
  have HM := Lib.hid hm
  have HR := Lib.hid hr
  clear hm hr
  go_enter Try.func31, Try.ntmps31
  go_wp2_with fail
  refine (wuint_any m g bs w (by omega) h (by omega)).mono ?_
  have HG := Lib.hid (Nat.le_of_lt h.lt)
  rintro e w1 ⟨rfl, ⟨a2, c2, hbx2, hown2⟩, hb⟩
  have hc := hbx2.cell
  have hf := hbx2.frozen
  obtain ⟨k, hk⟩ : ∃ k, (bs ++ uv m).length = k := ⟨_, rfl⟩
  rw [hk] at hc hbx2 hown2
  have hkl : k ≤ 900010 := by rw [← hk, List.length_append]; have := HU.out; omega
  have HK := Lib.hid hk
  have HO2 := Lib.hid (show k + m ≤ maxLen by unfold maxLen; omega)
  have HO3 := Lib.hid (show (k + m) * 1 ≤ 140737488355328 by omega)
  have HO4 := Lib.hid (show g ≤ w1.heap.size from Nat.le_of_lt hbx2.lt)
  have HR1 := Lib.hid (HR.out.lt_below hb HG.out)
  clear hk
  go_wp2_with (at_builtin; refine wpList_append_in rfl _ _ 24 rfl g 5 i0 (.int .u8 0) 1 Try.underlying24 hi0 hz0 hz1 hz2 rfl _ _ _ rfl hown2 .u8 _ _ _ _ _ rfl HR1.out HO2.out HO3.out HO4.out ?_; intro v' w2 hown' hgrow; obtain ⟨a3, c3, rfl⟩ := own_form hown'; obtain ⟨hv1, hv2, hr2, hb2⟩ := appended0 hbx2 (by decide) hown2 HO4.out (Nat.le_refl _) hown' hgrow; have hc1 := hv1.cell; have hf1 := hv1.frozen)
  go_end0
  refine ⟨rfl, ?_, hb.trans hb2⟩
  rw [← List.append_assoc, HM.out]
  exact Wr.mkL HK.out HM.out hv2 hr2
set_option maxHeartbeats 800000 in
theorem wints_any (l : List Int) (A : Option Addr) (m c : Nat) (g : Nat) (bs : List UInt8) (w : World) (hm : l.length = m) (hml : m ≤ 1000) (ho : ∀ n ∈ l, ok64 n) (hr : In .i64 w (· < g) (.slice A m c) l) (h : Wr w g bs) (hl : bs.length ≤ 900000) :
    Calls Try.prog 32 #[.pointer (some ⟨g, 0, none⟩), .slice A m c] w fun e w' => e = .returned (.tuple #[]) ∧ Wr w' g (bs ++ (uv l.length ++ ofInts l)) ∧ Below g w w' := by
  have HU := Lib.hid (uv_len10 (n := m) (by omega))
  have HM := Lib.hid hm
  have HR := Lib.hid hr
  have HO := Lib.hid ho
  clear hm hr ho
  go_enter Try.func32, Try.ntmps32
  go_wp2_with fail
  refine (wuint_any m g bs w (by omega) h (by omega)).mono ?_
  have HG := Lib.hid (Nat.le_of_lt h.lt)
  rintro e w1 ⟨rfl, hw1, hb⟩
  have HW := Lib.hid hw1
  clear hw1 h
  go_wp2_with fail
  go_loopw [13] (fun i wr => ∃ j : Nat, j ≤ m ∧ i = .int .i64 j ∧ Wr wr g (bs ++ uv m ++ ofInts (l.take j)) ∧ (ofInts (l.take j)).length ≤ 10 * j ∧ Below g w wr) (fun i _ => m - (intOf i).toNat)
  case atStart => exact ⟨0, Nat.zero_le _, rfl, by simpa [ofInts] using HW.out, by simp [ofInts], hb⟩
  case round =>
    obtain ⟨j, hj, rfl, hw, hlen, hb2⟩ := hrel
    have HW2 := Lib.hid hw
    have HLN := Lib.hid hlen
    clear hw hlen
    by_cases hlt : j < m
    · have hjl : j < l.length := by rw [HM.out]; exact hlt
      obtain ⟨b, off, rfl, hbg, hbs, hcell⟩ := (HR.out.lt_below hb2 HG.out).at_ (j := j) hjl
      have hg1 := HO.out l[j] (List.getElem_mem _)
      have HS := Lib.hid (show ofInts (l.take (j + 1)) = ofInts (l.take j) ++ uv (zz (l.getD j 0)) by
        rw [List.take_succ_eq_append_getElem hjl, ofInts_snoc, List.getD_eq_getElem?_getD, List.getElem?_eq_getElem hjl]; rfl)
      have he : l.getD j 0 = l[j] := by rw [List.getD_eq_getElem?_getD, List.getElem?_eq_getElem hjl]; rfl
      rw [← he] at hg1
      have HZ := Lib.hid (uv_len10 (zz_lt hg1.1 hg1.2))
      have HG1 := Lib.hid hg1
      clear he hg1
      generalize l.getD j 0 = x at hcell HS HZ HG1
      go_wp2_with (go_at_call 29; refine (wint_any _ g _ _ HG1.out HW2.out (by have := HU.out; have := HLN.out; simp only [List.length_append]; omega)).mono ?_; rintro e w3 ⟨rfl, hw3, hb3⟩)
      go_roundw
      case rel => exact ⟨j + 1, by omega, by go_num, by rw [HS.out, ← List.append_assoc]; exact hw3, by rw [HS.out, List.length_append]; have := HLN.out; have := HZ.out; omega, hb2.trans hb3⟩
      case measure => simp [intOf]; omega
    · go_wp2
      go_end0
      refine ⟨rfl, ?_, hb2⟩
      have := HW2.out
      rw [List.take_of_length_le (by rw [HM.out]; omega), List.append_assoc] at this
      rw [HM.out]
      exact this
set_option maxHeartbeats 800000 in
theorem clone_any (l : List UInt8) (A : Option Addr) (m c : Nat) (ok : Nat → Prop) (w : World) (hm : l.length = m) (hml : m ≤ 2000000) (hr : In .u8 w ok (.slice A m c) (bI l)) :
    Calls Try.prog 39 #[.slice A m c] w (Fresh .u8 5 (bI l) w) := by
  obtain ⟨i0, hi0, hz0, hz1, hz2⟩ := info_parts byte_info
  have HM := Lib.hid hm
  have hnil := fun W : World => Lib.run_eql_slice_nil (P := Try.prog) W 24 5 A m c 0 0 Try.underlying24
  have HO2 := Lib.hid (show 0 + m ≤ maxLen by unfold maxLen; omega)
  have HO3 := Lib.hid (show (0 + m) * 1 ≤ 140737488355328 by omega)
  clear hm
  cases A with
  | none =>
    have hl : bI l = [] ∧ m = 0 ∧ c = 0 := by
      rcases hr with ⟨h, h0⟩ | ⟨b, off, c', h1, _⟩
      · injection h with _ h1 h2; exact ⟨h0, h1, h2⟩
      · injection h1 with h1; cases h1
    obtain ⟨hl, rfl, rfl⟩ := hl
    have HL := Lib.hid hl
    clear hl hr
    go_enter Try.func39, Try.ntmps39
    go_wp2
    go_ret
    refine ⟨none, 0, by rw [HL.out]; rfl, by rw [HL.out]; exact World.ownsRow_nil _ _ _ _, Below.refl _ _⟩
  | some ad =>
    have hown0 := World.ownsRow_made (base := w.heap.size) (e := 5) (size := 1) w #[] 0 (Nat.le_refl _) (by decide) rfl
    have HR := Lib.hid (hr.new (w' := w.alloc (.cells #[] 5)) ((Below.refl _ w).alloc (Nat.le_refl _) _))
    clear hr
    go_enter Try.func39, Try.ntmps39
    go_wp2_with (at_builtin; refine wpList_append_in rfl _ _ 24 rfl w.heap.size 5 i0 (.int .u8 0) 1 Try.underlying24 hi0 hz0 hz1 hz2 rfl _ _ _ rfl hown0 .u8 _ _ _ _ _ rfl HR.out HO2.out HO3.out (alloc_ge (Nat.le_refl _)) ?_; intro v' w2 hown' hgrow; obtain ⟨a3, c3, rfl⟩ := own_form hown')
    go_ret
    have hlen : (bI l).length = m := by rw [bI_len]; exact HM.out
    refine ⟨a3, c3, by rw [hlen]; rfl, ?_, ?_⟩
    · rw [hlen]
      simpa using hown'
    · exact ((Below.refl _ w).alloc (Nat.le_refl _) _).grown hgrow (by simp) (own_block_ge hown0)
set_option maxHeartbeats 800000 in
theorem wdone_any (g : Nat) (bs : List UInt8) (w : World) (h : Wr w g bs) (hl : bs.length ≤ 2000000) :
    Calls Try.prog 16 #[.pointer (some ⟨g, 0, none⟩)] w (Fresh .u8 5 (bI bs) w) := by
  obtain ⟨a2, c2, hbx2, hown2⟩ := h
  have hc := hbx2.cell
  have HI := Lib.hid (In.own hown2)
  go_enter Try.func16, Try.ntmps16
  go_wp2_with fail
  refine (clone_any bs _ _ _ _ w rfl hl HI.out).mono ?_
  rintro e w' ⟨a, c, rfl, hown', hb⟩
  go_wp2
  go_ret
  exact ⟨a, c, rfl, hown', hb⟩
end Go.Proofs.Ytgcgifjfgmhhmaa
