/- Contracts of the program's words. Conditions: as each statement has them. -/
import Derived.Test.YtdamadkhbeonaaaB2
import Derived.RangeFuncBox
import Derived.Laws.CopyOwn
import Derived.Test.YtdamadkhbeonaaaB1
import Derived.Deep.RegionWith
namespace Go.Proofs.Ytdamadkhbeonaaa
open Go.RowKit
attribute [local go_sem ↓] Go.wp_at_zero Go.wp_at_succ

theorem w32_info : (Try.prog.info? 73).map (fun i => (i.zero, i.size, i.bytes)) = some (some (.int .u32 0), 1, 4) := by kernel_rfl
theorem w32_size (W : World) : (sizeOf 73).run Try.prog W = .ok 1 W := by kernel_rfl

theorem wordAt_any (l : List Nat) (A : Option Addr) (n c j : Nat) (w : World) (hl : LI .u32 w (.slice A n c) l) (_hn : n ≤ 1000000) (_hj : j ≤ 1000000) :
    Calls Try.prog 63 #[.slice A n c, .int .i64 (j : Int)] w fun e w' => e = .returned (.int .u32 ((l.getD j 0 : Nat) : Int)) ∧ w = w' := by
  by_cases h : j < n
  · obtain ⟨b, off, rfl, hb, hc⟩ := hl.at_ h
    clear hl
    generalize l.getD j 0 = x at hc
    go_enter Try.func63, Try.ntmps63
    go_wp2
    go_ret
    exact ⟨rfl, rfl⟩
  · have h0 : l.getD j 0 = 0 := getD_out (by have := hl.len; omega)
    rw [h0]
    clear hl h0
    go_enter Try.func63, Try.ntmps63
    go_wp2
    go_ret
    exact ⟨rfl, rfl⟩
theorem adding_any (w : World) : Calls Try.prog 62 #[] w fun e w' => e = .returned (.func (.func 67) #[] #[.pointer (some ⟨w.heap.size, 0, none⟩)]) ∧ w.alloc (.cells #[.int .u64 0] 76) = w' := by
  go_enter Try.func62, Try.ntmps62
  go_wp2
  go_ret
  exact ⟨rfl, rfl⟩
theorem subtracting_any (w : World) : Calls Try.prog 69 #[] w fun e w' => e = .returned (.func (.func 70) #[] #[.pointer (some ⟨w.heap.size, 0, none⟩)]) ∧ w.alloc (.cells #[.int .u64 0] 76) = w' := by
  go_enter Try.func69, Try.ntmps69
  go_wp2
  go_ret
  exact ⟨rfl, rfl⟩
theorem multiplying_any (f : Int) (w : World) : Calls Try.prog 59 #[.int .u32 f] w fun e w' => e = .returned (.func (.func 66) #[] #[.pointer (some ⟨w.heap.size, 0, none⟩), .pointer (some ⟨w.heap.size + 1, 0, none⟩)]) ∧ (w.alloc (.cells #[.int .u32 f] 73)).alloc (.cells #[.int .u64 0] 76) = w' := by
  go_enter Try.func59, Try.ntmps59
  go_wp2
  go_ret
  exact ⟨rfl, rfl⟩
theorem adding1_any (x y q g : Nat) (w : World) (hx : x < 4294967296) (hy : y < 4294967296) (hq : q ≤ 1) (h : Boxed w g 76 (.int .u64 (q : Int))) :
    Calls Try.prog 67 #[.int .u32 (x : Int), .int .u32 (y : Int), .pointer (some ⟨g, 0, none⟩)] w fun e w' => e = .returned (.int .u32 (((x + y + q) % 4294967296 : Nat) : Int)) ∧ w.setCell ⟨g, 0, none⟩ (.int .u64 (((x + y + q) / 4294967296 : Nat) : Int)) = w' := by
  have hc := h.cell
  have hf := h.frozen
  obtain ⟨X, hX⟩ : ∃ X : Int, (x : Int) = X := ⟨_, rfl⟩
  obtain ⟨Y, hY⟩ : ∃ X : Int, (y : Int) = X := ⟨_, rfl⟩
  obtain ⟨Q, hQ⟩ : ∃ X : Int, (q : Int) = X := ⟨_, rfl⟩
  rw [show (((x + y + q) % 4294967296 : Nat) : Int) = (X + Y + Q) % 4294967296 by omega, show (((x + y + q) / 4294967296 : Nat) : Int) = (X + Y + Q) / 4294967296 by omega, hX, hY]
  rw [hQ] at hc
  have hX1 : 0 ≤ X := by omega
  have hX2 : X < 4294967296 := by omega
  have hY1 : 0 ≤ Y := by omega
  have hY2 : Y < 4294967296 := by omega
  have hQ1 : 0 ≤ Q := by omega
  have hQ2 : Q ≤ 1 := by omega
  clear hX hY hQ hx hy hq h
  go_enter Try.func67, Try.ntmps67
  go_wp2
  go_ret
  refine ⟨?_, ?_⟩
  · rfl
  · rfl
/-- What is borrowed, and what is left. -/
def sbo (x y q : Nat) : Nat := if x < y + q then 1 else 0
def sle (x y q : Nat) : Nat := x + 4294967296 * sbo x y q - y - q
theorem sb_eq {x y q : Nat} (hy : y < 4294967296) (hq : q ≤ 1) : sle x y q + y + q = x + 4294967296 * sbo x y q := by
  unfold sle sbo; split <;> omega
theorem sle_lt {x y q : Nat} (hx : x < 4294967296) : sle x y q < 4294967296 := by
  unfold sle sbo; split <;> omega
theorem sbo_le (x y q : Nat) : sbo x y q ≤ 1 := by unfold sbo; split <;> omega
theorem wu64 (n : Int) : IntKind.u64.wrap n = n % 18446744073709551616 := by simp [IntKind.wrap, IntKind.bits, IntKind.signed]
theorem sub_wrap1 {X Y Q : Int} (h1 : 0 ≤ X) (h2 : X < 4294967296) (h3 : 0 ≤ Y) (h4 : Y < 4294967296) (h5 : 0 ≤ Q) (h6 : Q ≤ 1) (h : X < Y + Q) :
    IntKind.u64.wrap (IntKind.u64.wrap (X - Y) - Q) % 4294967296 = X - Y - Q + 4294967296 ∧ IntKind.u64.wrap (IntKind.u64.wrap (X - Y) - Q) / 9223372036854775808 = 1 := by
  rw [wu64, wu64]; omega
theorem subtracting1_any (x y q g : Nat) (w : World) (hx : x < 4294967296) (hy : y < 4294967296) (hq : q ≤ 1) (h : Boxed w g 76 (.int .u64 (q : Int))) :
    Calls Try.prog 70 #[.int .u32 (x : Int), .int .u32 (y : Int), .pointer (some ⟨g, 0, none⟩)] w fun e w' => e = .returned (.int .u32 ((sle x y q : Nat) : Int)) ∧ w.setCell ⟨g, 0, none⟩ (.int .u64 ((sbo x y q : Nat) : Int)) = w' := by
  have hc := h.cell
  have hf := h.frozen
  obtain ⟨X, hX⟩ : ∃ X : Int, (x : Int) = X := ⟨_, rfl⟩
  obtain ⟨Y, hY⟩ : ∃ X : Int, (y : Int) = X := ⟨_, rfl⟩
  obtain ⟨Q, hQ⟩ : ∃ X : Int, (q : Int) = X := ⟨_, rfl⟩
  have hX1 : 0 ≤ X := by omega
  have hX2 : X < 4294967296 := by omega
  have hY1 : 0 ≤ Y := by omega
  have hY2 : Y < 4294967296 := by omega
  have hQ1 : 0 ≤ Q := by omega
  have hQ2 : Q ≤ 1 := by omega
  by_cases hlt : x < y + q
  · have HD := hJ (show ((sle x y q : Nat) : Int) = X - Y - Q + 4294967296 by unfold sle sbo; rw [if_pos hlt]; omega)
    have HB := hJ (show ((sbo x y q : Nat) : Int) = 1 by unfold sbo; rw [if_pos hlt]; rfl)
    have hXY : X < Y + Q := by omega
    rw [HD.out, HB.out]
    rw [hX, hY]
    rw [hQ] at hc
    clear hX hY hQ hx hy hq h hlt HD HB
    go_enter Try.func70, Try.ntmps70
    go_wp2
    go_ret
    obtain ⟨e1, e2⟩ := sub_wrap1 hX1 hX2 hY1 hY2 hQ1 hQ2 hXY
    exact ⟨ret_int e1, by rw [e2]⟩
  · have HD := hJ (show ((sle x y q : Nat) : Int) = X - Y - Q by unfold sle sbo; rw [if_neg hlt]; omega)
    have HB := hJ (show ((sbo x y q : Nat) : Int) = 0 by unfold sbo; rw [if_neg hlt]; rfl)
    have hXY : Y + Q ≤ X := by omega
    rw [HD.out, HB.out]
    rw [hX, hY]
    rw [hQ] at hc
    clear hX hY hQ hx hy hq h hlt HD HB
    have e1 : 0 ≤ X - Y := by omega
    have e2 : 0 ≤ X - Y - Q := by omega
    go_enter Try.func70, Try.ntmps70
    go_wp2
    go_ret
    refine ⟨ret_int ?_, ?_⟩
    · omega
    · rw [show (X - Y - Q) / 9223372036854775808 = 0 by omega]
theorem prod_bd {X F : Int} (h1 : 0 ≤ X) (h2 : X < 4294967296) (h3 : 0 ≤ F) (h4 : F < 4294967296) : 0 ≤ X * F ∧ X * F ≤ 18446744065119617025 := by
  refine ⟨Int.mul_nonneg h1 h3, ?_⟩
  have := Int.mul_le_mul (show X ≤ 4294967295 by omega) (show F ≤ 4294967295 by omega) h3 (by decide)
  omega
theorem multiplying1_any (x y f q g g' : Nat) (w : World) (hx : x < 4294967296) (hy : y < 4294967296) (hf : f < 4294967296) (hq : q < 4294967296) (h : Boxed w g 73 (.int .u32 (f : Int))) (h' : Boxed w g' 76 (.int .u64 (q : Int))) :
    Calls Try.prog 66 #[.int .u32 (x : Int), .int .u32 (y : Int), .pointer (some ⟨g, 0, none⟩), .pointer (some ⟨g', 0, none⟩)] w fun e w' => e = .returned (.int .u32 (((x * f + y + q) % 4294967296 : Nat) : Int)) ∧ w.setCell ⟨g', 0, none⟩ (.int .u64 (((x * f + y + q) / 4294967296 : Nat) : Int)) = w' := by
  have hc := h.cell
  have hc' := h'.cell
  have hf' := h'.frozen
  obtain ⟨X, hX⟩ : ∃ X : Int, (x : Int) = X := ⟨_, rfl⟩
  obtain ⟨Y, hY⟩ : ∃ X : Int, (y : Int) = X := ⟨_, rfl⟩
  obtain ⟨F, hF⟩ : ∃ X : Int, (f : Int) = X := ⟨_, rfl⟩
  obtain ⟨Q, hQ⟩ : ∃ X : Int, (q : Int) = X := ⟨_, rfl⟩
  have hX1 : 0 ≤ X := by omega
  have hX2 : X < 4294967296 := by omega
  have hY1 : 0 ≤ Y := by omega
  have hY2 : Y < 4294967296 := by omega
  have hF1 : 0 ≤ F := by omega
  have hF2 : F < 4294967296 := by omega
  have hQ1 : 0 ≤ Q := by omega
  have hQ2 : Q < 4294967296 := by omega
  have hT : ((x * f + y + q : Nat) : Int) = X * F + Y + Q := by rw [Int.natCast_add, Int.natCast_add, Int.natCast_mul, hX, hF, hY, hQ]
  rw [show (((x * f + y + q) % 4294967296 : Nat) : Int) = (X * F + Y + Q) % 4294967296 by rw [← hT]; rfl, show (((x * f + y + q) / 4294967296 : Nat) : Int) = (X * F + Y + Q) / 4294967296 by rw [← hT]; rfl, hX, hY]
  rw [hF] at hc
  rw [hQ] at hc'
  obtain ⟨b1, b2⟩ := prod_bd hX1 hX2 hF1 hF2
  clear hX hY hQ hF hx hy hq hf h h' hT
  go_enter Try.func66, Try.ntmps66
  go_wp2
  go_ret
  exact ⟨rfl, rfl⟩

theorem wordsOf_any (m : Nat) (w : World) (hm : m < 18446744073709551616) :
    Calls Try.prog 60 #[.int .u64 (m : Int)] w fun e w' => e = .returned (.slice (some ⟨w.heap.size, 0, none⟩) 2 2) ∧ Blk .u32 w' w.heap.size 73 [m % 4294967296, m / 4294967296] ∧ Below w.heap.size w w' := by
  obtain ⟨M, hM⟩ : ∃ X : Int, (m : Int) = X := ⟨_, rfl⟩
  have HB := hJ (Blk.lit w .u32 73 [m % 4294967296, m / 4294967296])
  have h1 : 0 ≤ M := by omega
  have h2 : M < 18446744073709551616 := by omega
  have HE := hJ (show w.alloc (.cells #[.int .u32 (M % 4294967296), .int .u32 (M / 4294967296)] 73) = w.alloc (.cells (vs .u32 (nI [m % 4294967296, m / 4294967296])).toArray 73) by
    simp only [nI, vs, List.map_cons, List.map_nil, ← hM]; rfl)
  rw [hM]
  clear hM hm
  go_enter Try.func60, Try.ntmps60
  go_wp2
  go_ret
  refine ⟨rfl, ?_, (Below.refl _ w).alloc (Nat.le_refl _) _⟩
  have := HB.out
  rw [← HE.out] at this
  exact this
end Go.Proofs.Ytdamadkhbeonaaa

namespace Go.Proofs.Ytdamadkhbeonaaa
open Go.RowKit
attribute [local go_sem ↓] Go.wp_at_zero Go.wp_at_succ

theorem trimmed_ok (ok : Nat → Prop) (l : List Nat) (A : Option Addr) (n c : Nat) (w : World) (hd : Dig 4294967296 l) (hl : LO .u32 ok w (.slice A n c) l) (hn : n ≤ 1000000) :
    Calls Try.prog 58 #[.slice A n c] w fun e w' => (∃ k, e = .returned (.slice A k c) ∧ LO .u32 ok w' (.slice A k c) (digs 4294967296 (val 4294967296 l)) ∧ (digs 4294967296 (val 4294967296 l)).length = k ∧ k ≤ n ∧ l.take k = digs 4294967296 (val 4294967296 l)) ∧ w = w' := by
  have HL := hJ hl
  have HD := hJ hd
  have HN := hJ hl.len.1
  have HC := hJ hl.len.2
  clear hl hd
  go_enter Try.func58, Try.ntmps58
  go_wp2_with fail
  go_loop [0] (fun v => ∃ (k : Nat), k ≤ n ∧ v = .slice A k c ∧ LO .u32 ok w v (l.take k) ∧ ∃ j, l = l.take k ++ List.replicate j 0) (fun v => lenOf v)
  case atStart => exact ⟨n, Nat.le_refl _, rfl, by rw [List.take_of_length_le (by rw [HN.out]; exact Nat.le_refl _)]; exact HL.out, ⟨0, by rw [List.take_of_length_le (by rw [HN.out]; exact Nat.le_refl _)]; simp⟩⟩
  case round =>
    obtain ⟨k, hk, rfl, hli, hz⟩ := hrel
    have HLI := hJ hli
    have HZ := hJ hz
    clear hli hz
    rcases Nat.eq_zero_or_pos k with rfl | hp
    · have HNM := hJ (digs_of_zeros (B := 4294967296) (m := l.take 0) (by decide) HD.out HZ.out (norm_take (Nat.zero_le _) (.inl rfl)))
      go_wp2
      go_ret
      exact ⟨⟨0, rfl, by rw [← HNM.out]; exact HLI.out, by rw [← HNM.out]; simp, Nat.zero_le _, HNM.out⟩, rfl⟩
    · obtain ⟨m, rfl⟩ : ∃ m, k = m + 1 := ⟨k - 1, by omega⟩
      obtain ⟨b, off, rfl, hb, hc⟩ := HLI.out.at_ (j := m) (by omega)
      rw [getD_take' (Nat.lt_succ_self m)] at hc
      obtain ⟨x, hx⟩ : ∃ x, l.getD m 0 = x := ⟨_, rfl⟩
      rw [hx] at hc
      have HX := hJ hx
      clear hx
      obtain ⟨z, hz⟩ : ∃ z : Int, (x : Int) = z := ⟨_, rfl⟩
      rw [hz] at hc
      have HZX := hJ hz
      clear hz
      obtain ⟨hsl, hli'⟩ := HLI.out.to_same (P := Try.prog) (ty := 46) Try.underlying46 w32_size m (by omega) (by have := HC.out; omega) _ rfl
      by_cases h0 : z = 0
      · subst h0
        have HZ' := hJ (take_zeros (l := l) (k := m) (by have := HN.out; omega) (by have := HX.out; have := HZX.out; omega) HZ.out)
        have HLI' := hJ hli'
        rw [List.take_take, Nat.min_eq_left (Nat.le_succ m)] at HLI'
        clear hli'
        go_wp2
        go_round
        case rel => exact ⟨m, by omega, rfl, HLI'.out, HZ'.out⟩
        case measure => simp [lenOf]
      · have hz0 : (z == 0) = false := beq_eq_false_iff_ne.2 h0
        have HNM := hJ (digs_of_zeros (B := 4294967296) (m := l.take (m + 1)) (by decide) HD.out HZ.out (norm_take (by have := HN.out; omega) (.inr (by rw [Nat.add_sub_cancel]; have := HX.out; have := HZX.out; omega))))
        clear hli'
        go_wp2
        go_ret
        exact ⟨⟨m + 1, rfl, by rw [← HNM.out]; exact HLI.out, by rw [← HNM.out, List.length_take]; have := HN.out; omega, hk, HNM.out⟩, rfl⟩

/-- copy of as many cells as there are, into a block of zeros: its run, known ahead. -/
theorem run_copy_blk {P : Program} {w : World} {k : IntKind} {dT ty elem t : TypeId} {G n c : Nat} {A : Option Addr} {z l : List Nat} (hu : P.underlying dT = some (.slice elem)) (hs : (P.info? elem).map (·.size) = some 1)
    (hz : Blk k w G t z) (hzl : z.length = n) (hl : LI k w (.slice A n c) l) :
    ∃ w', (Builtin.copy_ #[dT, dT] ty #[.slice (some ⟨G, 0, none⟩) n n, .slice A n c]).run P w = .ok (goInt n) w' ∧ Blk k w' G t l ∧ Below G w w' := by
  have hn := hl.len.1
  rcases Nat.eq_zero_or_pos n with h0 | h0
  · subst h0
    obtain rfl : l = [] := List.eq_nil_of_length_eq_zero hn
    obtain rfl : z = [] := List.eq_nil_of_length_eq_zero hzl
    exact ⟨w, run_copy_none w dT dT ty elem _ _ _ _ _ _ hu hs rfl, hz, Below.refl _ _⟩
  · obtain ⟨ad, rfl, hc⟩ := In.cells hl h0
    have hcl : (vs k (nI l)).length = n := by rw [vs_length, nI_len, hn]
    have hr := run_copy_row (P := P) w dT dT ty elem G 0 n n ad n c _ t (vs k (nI l)) hu hs hz (by rw [hcl]; exact (Nat.min_self n).symm) hc (by simp only [List.size_toArray, vs_length, nI_len]; omega) (vs_one _ _)
    rw [hcl] at hr
    refine ⟨_, hr, ?_, ⟨rfl, rfl, rfl, by simp [World.setRow], fun k hk => setRow_other _ _ _ _ (by omega)⟩⟩
    unfold Blk
    rw [setRow_heap _ _ _ _ _ _ hz]
    congr 3
    rw [List.take_zero, List.nil_append, Nat.zero_add, List.drop_of_length_le (by simp only [vs_length, nI_len]; omega), List.append_nil]
set_option maxRecDepth 100000 in
theorem copied_any (l : List Nat) (A : Option Addr) (n c : Nat) (w : World) (hl : LI .u32 w (.slice A n c) l) (hn : n ≤ 1000000) :
    Calls Try.prog 57 #[.slice A n c] w fun e w' => e = .returned (.slice (some ⟨w.heap.size, 0, none⟩) n n) ∧ Blk .u32 w' w.heap.size 73 l ∧ Below w.heap.size w w' := by
  obtain ⟨i0, hi0, hz0, hz1, hz2⟩ := info_parts w32_info
  have HL := hJ hl
  have HI := hJ (show (Try.prog.info? 73).map (·.size) = some 1 by rw [hi0, ← hz1]; rfl)
  clear hl
  go_enter Try.func57, Try.ntmps57
  go_wp2_with (at_make; refine wpList_make_blk _ rfl _ _ 46 rfl 73 i0 .u32 4 Try.underlying46 hi0 hz0 hz1 hz2 n _ rfl rfl rfl (by decide) (by omega) ?_; intro w2 hblk hb2; obtain ⟨w3, hrun, hb3, hbel3⟩ := run_copy_blk (ty := 3) Try.underlying46 HI.out hblk List.length_replicate (HL.out.new hb2); have HB2 := hJ hb2; have HB3 := hJ hb3; have HBEL := hJ hbel3; clear hblk hb2 hb3 hbel3)
  go_ret
  exact ⟨rfl, HB3.out, HB2.out.trans HBEL.out⟩
end Go.Proofs.Ytdamadkhbeonaaa

namespace Go.Proofs.Ytdamadkhbeonaaa
open Go.RowKit
attribute [local go_sem ↓] Go.wp_at_zero Go.wp_at_succ

theorem isNaNi_any (x : Int) (w : World) : Calls Try.prog 61 #[.int .i64 x] w fun e w' => e = .returned (.bool false) ∧ w = w' := by
  go_enter Try.func61, Try.ntmps61
  go_wp2
  go_ret
  exact ⟨rfl, rfl⟩
theorem isNaNw_any (x : Int) (w : World) : Calls Try.prog 68 #[.int .u32 x] w fun e w' => e = .returned (.bool false) ∧ w = w' := by
  go_enter Try.func68, Try.ntmps68
  go_wp2
  go_ret
  exact ⟨rfl, rfl⟩
theorem cmpi_any (x y v : Int) (w : World) (h : (x < y ∧ v = -1) ∨ (x = y ∧ v = 0) ∨ (y < x ∧ v = 1)) : Calls Try.prog 49 #[.int .i64 x, .int .i64 y] w fun e w' => e = .returned (.int .i64 v) ∧ w = w' := by
  rcases h with ⟨h, rfl⟩ | ⟨rfl, rfl⟩ | ⟨h, rfl⟩
  · go_enter Try.func49, Try.ntmps49
    go_wp2_with (first | (go_at_call 61; refine (isNaNi_any _ _).mono ?_; rintro e w' ⟨rfl, rfl⟩))
    go_ret
    exact ⟨rfl, rfl⟩
  · go_enter Try.func49, Try.ntmps49
    go_wp2_with (first | (go_at_call 61; refine (isNaNi_any _ _).mono ?_; rintro e w' ⟨rfl, rfl⟩))
    go_ret
    exact ⟨rfl, rfl⟩
  · have h' : ¬ x < y := by omega
    go_enter Try.func49, Try.ntmps49
    go_wp2_with (first | (go_at_call 61; refine (isNaNi_any _ _).mono ?_; rintro e w' ⟨rfl, rfl⟩))
    go_ret
    exact ⟨rfl, rfl⟩
theorem cmpw_any (x y v : Int) (w : World) (h : (x < y ∧ v = -1) ∨ (x = y ∧ v = 0) ∨ (y < x ∧ v = 1)) : Calls Try.prog 64 #[.int .u32 x, .int .u32 y] w fun e w' => e = .returned (.int .i64 v) ∧ w = w' := by
  rcases h with ⟨h, rfl⟩ | ⟨rfl, rfl⟩ | ⟨h, rfl⟩
  · go_enter Try.func64, Try.ntmps64
    go_wp2_with (first | (go_at_call 68; refine (isNaNw_any _ _).mono ?_; rintro e w' ⟨rfl, rfl⟩))
    go_ret
    exact ⟨rfl, rfl⟩
  · go_enter Try.func64, Try.ntmps64
    go_wp2_with (first | (go_at_call 68; refine (isNaNw_any _ _).mono ?_; rintro e w' ⟨rfl, rfl⟩))
    go_ret
    exact ⟨rfl, rfl⟩
  · have h' : ¬ x < y := by omega
    go_enter Try.func64, Try.ntmps64
    go_wp2_with (first | (go_at_call 68; refine (isNaNw_any _ _).mono ?_; rintro e w' ⟨rfl, rfl⟩))
    go_ret
    exact ⟨rfl, rfl⟩

theorem quiet_addl {P : Program} {f : FuncId} {args : Array Value} {w : World} {a n : Nat} {v : Value} (h : Calls P f args (w.drewN (a + n)) fun e w' => e = .returned v ∧ w.drewN (a + n) = w') :
    Calls P f args (w.drewN (a + n)) fun e w'' => e = .returned v ∧ ∃ m, w'' = w.drewN (a + m) := h.mono fun _ _ ⟨he, hm⟩ => ⟨he, n, hm.symm⟩
/-- Two numbers of equal length. -/
theorem compareWords_eq (la lb : List Nat) (A A' : Option Addr) (n c c' : Nat) (w : World) (hda : Dig 4294967296 la) (hdb : Dig 4294967296 lb) (hx : LI .u32 w (.slice A n c) la) (hy : LI .u32 w (.slice A' n c') lb) (hn : n ≤ 1000000) :
    Calls Try.prog 55 #[.slice A n c, .slice A' n c'] w fun e w' => e = .returned (.int .i64 (cmpN (val 4294967296 la) (val 4294967296 lb))) ∧ Below w.heap.size w w' := by
  have HX := hJ hx
  have HY := hJ hy
  have H1 := hJ hx.len.1
  have H2 := hJ hy.len.1
  have HDA := hJ hda
  have HDB := hJ hdb
  clear hx hy hda hdb
  go_enter Try.func55, Try.ntmps55
  go_wp2
  go_loopw [5] (fun i wr => ∃ z : Int, -1 ≤ z ∧ z < (n : Int) ∧ i = .int .i64 z ∧ la.drop (z + 1).toNat = lb.drop (z + 1).toNat ∧ Below w.heap.size w wr) (fun i _ => (intOf i + 1).toNat)
  case atStart => exact ⟨(n : Int) - 1, by omega, by omega, rfl, by rw [List.drop_of_length_le (by rw [H1.out]; omega), List.drop_of_length_le (by rw [H2.out]; omega)], Below.refl _ _⟩
  case round =>
    obtain ⟨z, hz1, hz2, rfl, hd, hb⟩ := hrel
    have HD := hJ hd
    have HB := hJ hb
    clear hd hb
    by_cases hz : 0 ≤ z
    · obtain ⟨j, rfl⟩ : ∃ j : Nat, z = (j : Int) := ⟨z.toNat, by omega⟩
      obtain ⟨b, off, rfl, hb1, hc1⟩ := (HX.out.new HB.out).at_ (j := j) (by omega)
      obtain ⟨b', off', rfl, hb2, hc2⟩ := (HY.out.new HB.out).at_ (j := j) (by omega)
      have HD2 := hJ (show la.drop (j + 1) = lb.drop (j + 1) from HD.out)
      obtain ⟨X, hX⟩ : ∃ X : Int, ((la.getD j 0 : Nat) : Int) = X := ⟨_, rfl⟩
      obtain ⟨Y, hY⟩ : ∃ Y : Int, ((lb.getD j 0 : Nat) : Int) = Y := ⟨_, rfl⟩
      rw [hX] at hc1
      rw [hY] at hc2
      have HVX := hJ hX
      have HVY := hJ hY
      clear hX hY HD
      have hj1 : (0 : Int) ≤ (j : Int) := by omega
      have hj2 : (j : Int) < (n : Int) := by omega
      by_cases hXY : X = Y
      · subst hXY
        have HE := hJ (show la.drop j = lb.drop j by
          have e1 := H1.out
          have e2 := H2.out
          rw [drop_cons (by omega), drop_cons (l := lb) (by omega), HD2.out]
          have : la.getD j 0 = lb.getD j 0 := by have := HVX.out; have := HVY.out; omega
          rw [this])
        go_wp2
        go_quiet (fail)
        go_wp2
        go_roundw
        case rel => exact ⟨(j : Int) - 1, by omega, by omega, rfl, by rw [show ((j : Int) - 1 + 1).toNat = j by omega]; exact HE.out, by exact ⟨HB.out.os, HB.out.tape, HB.out.output, HB.out.size, HB.out.block⟩⟩
        case measure => simp [intOf]
      · have hne : (X != Y) = true := by rw [bne_iff_ne]; exact hXY
        obtain ⟨v, hv⟩ : ∃ v, cmpN (val 4294967296 la) (val 4294967296 lb) = v := ⟨_, rfl⟩
        have HV := hJ hv
        have HC := hJ (show (X < Y ∧ v = -1) ∨ (X = Y ∧ v = 0) ∨ (Y < X ∧ v = 1) by
          have e1 := HVX.out
          have e2 := HVY.out
          rcases Int.lt_trichotomy X Y with h | h | h
          · exact .inl ⟨h, by rw [← hv]; exact cmpN_lt (val_cmp (by decide) HDA.out HD2.out (by omega))⟩
          · exact absurd h hXY
          · exact .inr (.inr ⟨h, by rw [← hv]; exact cmpN_gt (val_cmp (by decide) HDB.out HD2.out.symm (by omega))⟩))
        clear hXY hv
        go_wp2
        go_quiet (fail)
        go_wp2
        go_quiet ((go_at_call 64; exact quiet_addl (cmpw_any X Y v _ HC.out)))
        go_wp2
        go_ret
        exact ⟨ret_int HV.out.symm, by exact ⟨HB.out.os, HB.out.tape, HB.out.output, HB.out.size, HB.out.block⟩⟩
    · obtain rfl : z = -1 := by omega
      go_wp2
      go_ret
      refine ⟨?_, HB.out⟩
      have : la = lb := by
        have := HD.out
        rw [show ((-1 : Int) + 1).toNat = 0 by omega, List.drop_zero, List.drop_zero] at this
        exact this
      rw [this, cmpN_eq]
      rfl
end Go.Proofs.Ytdamadkhbeonaaa

namespace Go.Proofs.Ytdamadkhbeonaaa
open Go.RowKit
attribute [local go_sem ↓] Go.wp_at_zero Go.wp_at_succ

/-- Two trimmed numbers. -/
theorem compareWords_any (x y : Nat) (A A' : Option Addr) (n n' c c' : Nat) (w : World) (hx : LI .u32 w (.slice A n c) (digs 4294967296 x)) (hy : LI .u32 w (.slice A' n' c') (digs 4294967296 y)) (hn : n ≤ 1000000) (hn' : n' ≤ 1000000) :
    Calls Try.prog 55 #[.slice A n c, .slice A' n' c'] w fun e w' => e = .returned (.int .i64 (cmpN x y)) ∧ Below w.heap.size w w' := by
  have h1 := hx.len.1
  have h2 := hy.len.1
  by_cases he : n = n'
  · subst he
    have := compareWords_eq _ _ A A' n c c' w (dig_digs (by decide) x) (dig_digs (by decide) y) hx hy hn
    rwa [val_digs (by decide), val_digs (by decide)] at this
  · obtain ⟨v, hv⟩ : ∃ v, cmpN x y = v := ⟨_, rfl⟩
    have HC := hJ (show ((n : Int) < (n' : Int) ∧ v = -1) ∨ ((n : Int) = (n' : Int) ∧ v = 0) ∨ ((n' : Int) < (n : Int) ∧ v = 1) by
      rcases Nat.lt_trichotomy n n' with h | h | h
      · exact .inl ⟨by omega, by rw [← hv]; exact cmpN_lt (digs_len_lt (B := 4294967296) (by decide) (by omega))⟩
      · exact absurd h he
      · exact .inr (.inr ⟨by omega, by rw [← hv]; exact cmpN_gt (digs_len_lt (B := 4294967296) (by decide) (by omega))⟩))
    have hne : ((n : Int) != (n' : Int)) = true := by rw [bne_iff_ne]; omega
    rw [hv]
    clear hx hy h1 h2 he hv
    go_enter Try.func55, Try.ntmps55
    go_wp2_with (go_at_call 49; refine (cmpi_any _ _ v _ HC.out).mono ?_; rintro e w' ⟨rfl, rfl⟩)
    go_ret
    exact ⟨rfl, Below.refl _ _⟩

/-- What a function returns that returns words in a new block. -/
def RetB (P : List Nat → Prop) (w : World) (e : Ending) (w' : World) : Prop := ∃ G n o, e = .returned (.slice (some ⟨G, 0, none⟩) n n) ∧ w.heap.size ≤ G ∧ Blk .u32 w' G 73 o ∧ o.length = n ∧ Dig 4294967296 o ∧ P o ∧ Below w.heap.size w w'
theorem bx_far {w : World} {g : Nat} {t : TypeId} {v : Value} (h : Boxed w g t v) {p : Addr} (hp : g ≠ p.block) (u : Value) : Boxed (w.setCell p u) g t v := (Below.heap_setCell w p u g hp).trans h
set_option maxRecDepth 100000 in
set_option maxHeartbeats 1600000 in
theorem sum_any (la lb : List Nat) (A A' : Option Addr) (n n' c c' : Nat) (w : World) (hda : Dig 4294967296 la) (hdb : Dig 4294967296 lb) (hx : LI .u32 w (.slice A n c) la) (hy : LI .u32 w (.slice A' n' c') lb) (hn : n ≤ 900000) (hn' : n' ≤ 900000) :
    Calls Try.prog 54 #[.slice A n c, .slice A' n' c'] w (RetB (fun o => val 4294967296 o = val 4294967296 la + val 4294967296 lb ∧ o.length = max n n' + 1) w) := by
  obtain ⟨i0, hi0, hz0, hz1, hz2⟩ := info_parts w32_info
  have HX := hJ hx
  have HY := hJ hy
  have HN := hJ hx.len.1
  have HN' := hJ hy.len.1
  have HDA := hJ hda
  have HDB := hJ hdb
  have HFT := hJ (show val 4294967296 la + val 4294967296 lb < 4294967296 ^ (max n n' + 1) by
    have := sum_fits (B := 4294967296) (by decide) hda hdb
    rwa [hx.len.1, hy.len.1] at this)
  obtain ⟨M, hM⟩ : ∃ M, max n n' = M := ⟨_, rfl⟩
  have hM1 : n ≤ M := by omega
  have hM2 : n' ≤ M := by omega
  have hM3 : M ≤ 900000 := by omega
  have hcase : (n' ≤ n ∧ M ≤ n) ∨ (n < n' ∧ M ≤ n') := by omega
  rw [hM] at HFT ⊢
  clear hx hy hda hdb hM
  rcases hcase with ⟨hc1, hc2⟩ | ⟨hc1, hc2⟩
  all_goals
    go_enter Try.func54, Try.ntmps54
    go_wp2_with (at_make; refine wpList_make_blk _ rfl _ _ 46 rfl 73 i0 .u32 4 Try.underlying46 hi0 hz0 hz1 hz2 (M + 1) _ rfl rfl (by omega) (by decide) (by omega) ?_; intro w2 hblk hb2)
    refine (adding_any w2).mono ?_
    rintro e w3 ⟨rfl, hw3⟩
    obtain ⟨G, hG⟩ : ∃ G, w.heap.size = G := ⟨_, rfl⟩
    rw [hG] at hblk hb2 ⊢
    obtain ⟨C, hC⟩ : ∃ C, w2.heap.size = C := ⟨_, rfl⟩
    rw [hC]
    have HG := hJ hG
    have HBX := hJ (show Boxed w3 C 76 (.int .u64 ((0 : Nat) : Int)) by rw [← hw3, ← hC]; exact Boxed.new _ _ _)
    have HB3 := hJ (show Blk .u32 w3 G 73 (List.replicate (M + 1) 0) by rw [← hw3]; exact hblk.alloc _)
    have HBL := hJ (show Below G w w3 by rw [← hw3]; exact hb2.alloc (Nat.le_of_lt hblk.lt) _)
    have HGC := hJ (show G < C by rw [← hC]; exact hblk.lt)
    clear hw3 hG hC hblk hb2
    go_wp2_with fail
    go_loopw [18] (fun i wr => ∃ (k q : Nat) (r : List Nat), k ≤ M + 1 ∧ i = .int .i64 k ∧ r.length = k ∧ Dig 4294967296 r ∧ q ≤ 1 ∧ val 4294967296 r + 4294967296 ^ k * q = val 4294967296 (la.take k) + val 4294967296 (lb.take k) ∧ Boxed wr C 76 (.int .u64 (q : Int)) ∧ Blk .u32 wr G 73 (r ++ List.replicate (M + 1 - k) 0) ∧ Below G w wr) (fun i _ => M + 1 - (intOf i).toNat)
    case atStart => exact ⟨0, 0, [], Nat.zero_le _, rfl, rfl, dig_nil, by omega, by simp [val], HBX.out, HB3.out, HBL.out⟩
    case round =>
      obtain ⟨k, q, r, hk, rfl, hrl, hrd, hq, hv, hbx, hblk, hbel⟩ := hrel
      have HRL := hJ hrl
      have HRD := hJ hrd
      have HQ := hJ hq
      have HV := hJ hv
      have HBX := hJ hbx
      have HBK := hJ hblk
      have HBB := hJ hbel
      have HBW := hJ (show Below w.heap.size w wr by rw [HG.out]; exact hbel)
      clear hrl hrd hq hv hbx hblk hbel HB3 HBL
      by_cases hlt : k < M + 1
      · have d1 := dig_getD (B := 4294967296) (by decide) HDA.out k
        have d2 := dig_getD (B := 4294967296) (by decide) HDB.out k
        have HST := hJ (plus_step (x := la.getD k 0) (y := lb.getD k 0) HRL.out HV.out)
        rw [← val_take_succ, ← val_take_succ] at HST
        have HA1 := hJ (wordAt_any la A n c k wr (HX.out.new HBW.out) (by omega) (by omega))
        have HB1 := hJ (wordAt_any lb A' n' c' k wr (HY.out.new HBW.out) (by omega) (by omega))
        have HC1 := hJ (adding1_any (la.getD k 0) (lb.getD k 0) q C wr d1 d2 HQ.out HBX.out)
        have HR := hJ (show List.replicate (M + 1 - k) 0 = 0 :: List.replicate (M + 1 - (k + 1)) 0 by
          rw [show M + 1 - k = (M + 1 - (k + 1)) + 1 by omega]; rfl)
        generalize la.getD k 0 = x at d1 HST HA1 HC1
        generalize lb.getD k 0 = y at d2 HST HB1 HC1
        have HQ' := hJ (show (x + y + q) / 4294967296 ≤ 1 by have := HQ.out; omega)
        have HD' := hJ (show (x + y + q) % 4294967296 < 4294967296 by omega)
        obtain ⟨d, hd⟩ : ∃ d, (x + y + q) % 4294967296 = d := ⟨_, rfl⟩
        obtain ⟨q', hq'⟩ : ∃ d, (x + y + q) / 4294967296 = d := ⟨_, rfl⟩
        rw [hd] at HST HC1 HD'
        rw [hq'] at HST HC1 HQ'
        clear hd hq' d1 d2
        go_wp2_with fail
        refine HA1.out.mono ?_
        rintro e w' ⟨rfl, rfl⟩
        go_wp2_with fail
        refine HB1.out.mono ?_
        rintro e w' ⟨rfl, rfl⟩
        go_wp2_with fail
        refine HC1.out.mono ?_
        rintro e w4 ⟨rfl, hw4⟩
        have hb4 : Blk .u32 w4 G 73 (r ++ (0 :: List.replicate (M + 1 - (k + 1)) 0)) := by
          rw [← hw4, ← HR.out]
          exact HBK.out.far (by have := HGC.out; show G ≠ C; omega) _
        have HX4 := hJ (show Boxed w4 C 76 (.int .u64 (q' : Int)) by rw [← hw4]; exact HBX.out.set _)
        have HL4 := hJ (show Below G w w4 by rw [← hw4]; exact HBB.out.setCell (p := ⟨C, 0, none⟩) (Nat.le_of_lt HGC.out) _)
        have hlen : (r ++ (0 :: List.replicate (M + 1 - (k + 1)) 0)).length = M + 1 := by
          rw [List.length_append, HRL.out, List.length_cons, List.length_replicate]; omega
        have hcell := hb4.cell (i := k) (by omega)
        have hfr := hb4.frozen k
        have HS4 := hJ (hb4.set_ k d)
        have HM4 := hJ (set_at r (List.replicate (M + 1 - (k + 1)) 0) 0 d HRL.out)
        rw [getD_at r _ 0 HRL.out] at hcell
        clear hw4 hb4 hlen
        go_wp2
        go_roundw
        case rel =>
          refine ⟨k + 1, q', r ++ [d], by omega, by go_num, by rw [List.length_append, HRL.out]; rfl, dig_snoc HRD.out HD'.out, HQ'.out, HST.out, ?_, ?_, ?_⟩
          · exact bx_far HX4.out (p := ⟨G, k, none⟩) (by have := HGC.out; show C ≠ G; omega) _
          · have := HS4.out
            rw [HM4.out] at this
            exact this
          · exact HL4.out.setCell (p := ⟨G, k, none⟩) (Nat.le_refl _) _
        case measure => simp [intOf]; omega
      · obtain rfl : k = M + 1 := by omega
        have HDN := hJ (carry_done (B := 4294967296) HRL.out (by decide) HFT.out (by
          have := HV.out
          rw [val_take_all (by have := HN.out; omega), val_take_all (l := lb) (by have := HN'.out; omega)] at this
          exact this))
        go_wp2
        go_ret
        have hb := HBK.out
        rw [Nat.sub_self, List.replicate_zero, List.append_nil] at hb
        exact ⟨G, _, r, rfl, Nat.le_of_eq HG.out, hb, HRL.out, HRD.out, ⟨HDN.out.2, HRL.out⟩, HBW.out⟩
end Go.Proofs.Ytdamadkhbeonaaa

namespace Go.Proofs.Ytdamadkhbeonaaa
open Go.RowKit
attribute [local go_sem ↓] Go.wp_at_zero Go.wp_at_succ

set_option maxRecDepth 100000 in
set_option maxHeartbeats 1600000 in
theorem subtract_any (P seg T lb : List Nat) (A' : Option Addr) (G off n c n' c' : Nat) (w : World) (hblk : Blk .u32 w G 73 (P ++ (seg ++ T))) (hP : P.length = off) (hs : seg.length = n) (hds : Dig 4294967296 seg) (hdb : Dig 4294967296 lb) (hy : LO .u32 (· ≠ G) w (.slice A' n' c') lb) (hn : n ≤ 900000) (ho : off ≤ 900000) (hn' : n' ≤ 900000) (hle : val 4294967296 lb ≤ val 4294967296 seg) :
    Calls Try.prog 65 #[.slice (some ⟨G, off, none⟩) n c, .slice A' n' c'] w fun e w' => e = .returned (.tuple #[]) ∧ (∃ r, r.length = n ∧ Dig 4294967296 r ∧ val 4294967296 r = val 4294967296 seg - val 4294967296 lb ∧ Blk .u32 w' G 73 (P ++ (r ++ T))) ∧ Kp (· = G) w w' := by
  have HP := hJ hP
  have HN := hJ hs
  have HY := hJ hy
  have HDA := hJ hds
  have HDB := hJ hdb
  have HLE := hJ hle
  have HBK0 := hJ hblk
  have HGW := hJ hblk.lt
  clear hP hs hy hds hdb hle hblk
  go_enter Try.func65, Try.ntmps65
  go_wp2_with fail
  refine (subtracting_any w).mono ?_
  rintro e w3 ⟨rfl, hw3⟩
  obtain ⟨C, hC⟩ : ∃ C, w.heap.size = C := ⟨_, rfl⟩
  rw [hC]
  have HBX := hJ (show Boxed w3 C 76 (.int .u64 ((0 : Nat) : Int)) by rw [← hw3, ← hC]; exact Boxed.new _ _ _)
  have HB3 := hJ (show Blk .u32 w3 G 73 (P ++ (seg ++ T)) by rw [← hw3]; exact HBK0.out.alloc _)
  have HK3 := hJ (show Kp (· = G) w w3 by rw [← hw3]; exact (Kp.refl _ w).alloc _)
  have HGC := hJ (show G < C by rw [← hC]; exact HGW.out)
  have HCW := hJ hC
  clear hw3 hC
  go_wp2_with fail
  go_loopw [9] (fun i wr => ∃ (k q : Nat) (r : List Nat), k ≤ n ∧ i = .int .i64 k ∧ r.length = k ∧ Dig 4294967296 r ∧ q ≤ 1 ∧ val 4294967296 r + val 4294967296 (lb.take k) = val 4294967296 (seg.take k) + 4294967296 ^ k * q ∧ Boxed wr C 76 (.int .u64 (q : Int)) ∧ Blk .u32 wr G 73 (P ++ (r ++ (seg.drop k ++ T))) ∧ Kp (· = G) w wr) (fun i _ => n - (intOf i).toNat)
  case atStart => exact ⟨0, 0, [], Nat.zero_le _, rfl, rfl, dig_nil, by omega, by simp [val], HBX.out, by simpa using HB3.out, HK3.out⟩
  case round =>
    obtain ⟨k, q, r, hk, rfl, hrl, hrd, hq, hv, hbx, hblk, hkp⟩ := hrel
    have HRL := hJ hrl
    have HRD := hJ hrd
    have HQ := hJ hq
    have HV := hJ hv
    have HBX := hJ hbx
    have HBK := hJ hblk
    have HKP := hJ hkp
    clear hrl hrd hq hv hbx hblk hkp HB3 HK3
    by_cases hlt : k < n
    · have d1 := dig_getD (B := 4294967296) (by decide) HDA.out k
      have d2 := dig_getD (B := 4294967296) (by decide) HDB.out k
      have HDR := hJ (drop_cons (l := seg) (k := k) (by rw [HN.out]; exact hlt))
      have HST := hJ (minus_step (x := seg.getD k 0) (y := lb.getD k 0) (d := sle (seg.getD k 0) (lb.getD k 0) q) (c := sbo (seg.getD k 0) (lb.getD k 0) q) HRL.out HV.out (sb_eq d2 HQ.out))
      rw [← val_take_succ, ← val_take_succ] at HST
      have HLB := hJ (HY.out.kp HKP.out (fun b _ h => h))
      have HB1 := fun W => hJ (fun (hb : Below wr.heap.size wr W) => wordAt_any lb A' n' c' k W (HLB.out.new hb).weak (by omega) (by omega))
      have HC1 := fun W => hJ (fun (hb : Boxed W C 76 (.int .u64 (q : Int))) => subtracting1_any (seg.getD k 0) (lb.getD k 0) q C W d1 d2 HQ.out hb)
      have HD' := hJ (sle_lt (x := seg.getD k 0) (y := lb.getD k 0) (q := q) d1)
      have HQ' := hJ (sbo_le (seg.getD k 0) (lb.getD k 0) q)
      have hblk := HBK.out
      rw [HDR.out, List.cons_append] at hblk
      have HBK2 := hJ hblk
      have hlen : (P ++ (r ++ (seg.getD k 0 :: (seg.drop (k + 1) ++ T)))).length = off + k + 1 + (n - (k + 1) + T.length) := by
        rw [List.length_append, List.length_append, List.length_cons, List.length_append, List.length_drop, HP.out, HRL.out, HN.out]; omega
      have hcell := hblk.cell (i := off + k) (by omega)
      rw [getD_mid P r _ _ (by rw [HP.out, HRL.out])] at hcell
      have HSM := hJ (fun d => set_mid P r (seg.drop (k + 1) ++ T) (seg.getD k 0) d (i := off + k) (by rw [HP.out, HRL.out]))
      clear hblk hlen
      generalize seg.getD k 0 = x at d1 HST HC1 hcell HD' HQ' HBK2 HSM HDR
      generalize lb.getD k 0 = y at d2 HST HB1 HC1 HD' HQ'
      obtain ⟨d, hd⟩ : ∃ d, sle x y q = d := ⟨_, rfl⟩
      obtain ⟨q', hq'⟩ : ∃ d, sbo x y q = d := ⟨_, rfl⟩
      rw [hd] at HST HD'
      rw [hq'] at HST HQ'
      have HDD := hJ hd
      have HQQ := hJ hq'
      clear hd hq' d1 d2
      have hk0 : (0 : Int) ≤ (k : Int) := by omega
      have hk1 : (k : Int) < (n : Int) := by omega
      go_wp2_with fail
      go_region_with ((first | (go_at_call 63; refine ((HB1 _).out (by exact (Below.refl _ wr).drew)).mono ?_; rintro e w' ⟨rfl, rfl⟩) | (go_at_call 70; refine ((HC1 _).out (by exact HBX.out)).mono ?_; rw [HDD.out, HQQ.out]; rintro e w4 ⟨rfl, hw4⟩; have hb4 : Blk .u32 w4 G 73 (P ++ (r ++ (x :: (seg.drop (k + 1) ++ T)))) := (by rw [← hw4]; exact HBK2.out.drew.far (by have := HGC.out; show G ≠ C; omega) _); have hcell4 := hb4.cell (i := off + k) (by rw [List.length_append, List.length_append, List.length_cons, HP.out, HRL.out]; omega); have hfr4 := hb4.frozen (off + k); have HX4 := hJ (show Boxed w4 C 76 (.int .u64 (q' : Int)) by rw [← hw4]; exact HBX.out.set _); have HK4 := hJ (show Kp (· = G) w w4 by rw [← hw4]; exact HKP.out.drew.setCell (p := ⟨C, 0, none⟩) (fun h => absurd h (by have := HCW.out; show ¬ C < _; omega)) _); have HS4 := hJ (hb4.set_ (off + k) d); clear hw4 hb4)))
      all_goals
        go_wp2
        go_roundw
        case rel =>
          refine ⟨k + 1, q', r ++ [d], by omega, by go_num, by rw [List.length_append, HRL.out]; rfl, dig_snoc HRD.out HD'.out, HQ'.out, HST.out, ?_, ?_, ?_⟩
          · exact bx_far HX4.out (p := ⟨G, off + k, none⟩) (by have := HGC.out; show C ≠ G; omega) _
          · have := HS4.out
            rw [HSM.out] at this
            exact this
          · exact HK4.out.setCell (p := ⟨G, off + k, none⟩) (fun _ => rfl) _
        case measure => simp [intOf]; omega
    · obtain rfl : k = n := by omega
      go_wp2
      go_end0
      refine ⟨rfl, ⟨r, HRL.out, HRD.out, minus_done HRL.out HRD.out (by decide) HDA.out HN.out HLE.out HV.out, ?_⟩, HKP.out⟩
      have := HBK.out
      rw [List.drop_of_length_le (by rw [HN.out]; exact Nat.le_refl _), List.nil_append] at this
      exact this
set_option maxRecDepth 100000 in
theorem difference_any (la lb : List Nat) (A A' : Option Addr) (n n' c c' : Nat) (w : World) (hda : Dig 4294967296 la) (hdb : Dig 4294967296 lb) (hx : LI .u32 w (.slice A n c) la) (hy : LI .u32 w (.slice A' n' c') lb) (hn : n ≤ 900000) (hn' : n' ≤ 900000) (hle : val 4294967296 lb ≤ val 4294967296 la) :
    Calls Try.prog 56 #[.slice A n c, .slice A' n' c'] w (RetB (fun o => val 4294967296 o = val 4294967296 la - val 4294967296 lb ∧ o.length = n) w) := by
  have HX := hJ hx
  have HY := hJ hy
  have HN := hJ hx.len.1
  have HDA := hJ hda
  have HDB := hJ hdb
  have HLE := hJ hle
  clear hx hy hda hdb hle
  go_enter Try.func56, Try.ntmps56
  go_wp2_with fail
  refine (copied_any la A n c w HX.out (by omega)).mono ?_
  rintro e w2 ⟨rfl, hblk, hb2⟩
  obtain ⟨G, hG⟩ : ∃ G, w.heap.size = G := ⟨_, rfl⟩
  have HLT := hJ (HY.out.lt.new hb2)
  have HB2 := hJ hb2
  rw [hG] at hblk HLT ⊢
  have HBK := hJ hblk
  have HG := hJ hG
  clear hblk hb2 hG
  go_wp2_with fail
  refine (subtract_any [] la [] lb A' G 0 n n n' c' w2 (by simpa using HBK.out) rfl HN.out HDA.out HDB.out (HLT.out.mono (fun b _ h e => by omega)) hn (by decide) hn' HLE.out).mono ?_
  rintro e w3 ⟨rfl, ⟨r, hrl, hrd, hrv, hrb⟩, hk⟩
  have HRL := hJ hrl
  have HRD := hJ hrd
  have HRV := hJ hrv
  have HRB := hJ hrb
  have HK := hJ hk
  clear hrl hrd hrv hrb hk
  go_wp2
  go_ret
  refine ⟨G, n, r, rfl, Nat.le_of_eq HG.out, by simpa using HRB.out, HRL.out, HRD.out, ⟨HRV.out, HRL.out⟩, ?_⟩
  exact ((Kp.new HB2.out).step HK.out (fun k hk e => by have := HG.out; omega)).below_new (fun _ _ e => e)
end Go.Proofs.Ytdamadkhbeonaaa

namespace Go.Proofs.Ytdamadkhbeonaaa
open Go.RowKit
attribute [local go_sem ↓] Go.wp_at_zero Go.wp_at_succ

end Go.Proofs.Ytdamadkhbeonaaa

namespace Go.Proofs.Ytdamadkhbeonaaa
open Go.RowKit
attribute [local go_sem ↓] Go.wp_at_zero Go.wp_at_succ

theorem RowInv.step' {B : Nat} {la lb o : List Nat} {i k c : Nat} (hB : 0 < B) (ha : Dig B la) (hb : Dig B lb) (h : RowInv B la lb i k c o) (hi : i < la.length) (hk : k < lb.length) :
    RowInv B la lb i (k + 1) ((lb.getD k 0 * la.getD i 0 + o.getD (i + k) 0 + c) / B) (o.set (i + k) ((lb.getD k 0 * la.getD i 0 + o.getD (i + k) 0 + c) % B)) := by
  have := h.step hB ha hb hi hk
  rwa [show o.getD (i + k) 0 + la.getD i 0 * lb.getD k 0 + c = lb.getD k 0 * la.getD i 0 + o.getD (i + k) 0 + c by rw [Nat.mul_comm (la.getD i 0)]; omega] at this
set_option maxRecDepth 100000 in
set_option maxHeartbeats 3200000 in
theorem product_any (la lb : List Nat) (A A' : Option Addr) (n n' c c' : Nat) (w : World) (hda : Dig 4294967296 la) (hdb : Dig 4294967296 lb) (hx : LI .u32 w (.slice A n c) la) (hy : LI .u32 w (.slice A' n' c') lb) (hn : n ≤ 400000) (hn' : n' ≤ 400000) :
    Calls Try.prog 46 #[.slice A n c, .slice A' n' c'] w (RetB (fun o => val 4294967296 o = val 4294967296 la * val 4294967296 lb ∧ o.length = n + n') w) := by
  obtain ⟨i0, hi0, hz0, hz1, hz2⟩ := info_parts w32_info
  have HX := hJ hx
  have HY := hJ hy
  have HN := hJ hx.len.1
  have HN' := hJ hy.len.1
  have HDA := hJ hda
  have HDB := hJ hdb
  obtain ⟨m, hm⟩ : ∃ m, n + n' = m := ⟨_, rfl⟩
  have hm1 : (n : Int) + (n' : Int) = (m : Int) := by omega
  have hm2 : m ≤ 800000 := by omega
  have HM := hJ hm
  have HM1 := hJ hm1
  rw [hm]
  clear hx hy hda hdb hm hm1
  go_enter Try.func46, Try.ntmps46
  go_wp2_with (at_make; refine wpList_make_blk _ rfl _ _ 46 rfl 73 i0 .u32 4 Try.underlying46 hi0 hz0 hz1 hz2 m _ rfl rfl HM1.out (by decide) (by omega) ?_; intro w2 hblk hb2)
  obtain ⟨G, hG⟩ : ∃ G, w.heap.size = G := ⟨_, rfl⟩
  rw [hG] at hblk hb2 ⊢
  have HG := hJ hG
  have HBLK := hJ hblk
  have HB2 := hJ hb2
  clear hG hblk hb2
  go_loopw [19] (fun i wr => ∃ (j : Nat) (o : List Nat), j ≤ n ∧ i = .int .i64 j ∧ MulInv 4294967296 la lb j o ∧ Blk .u32 wr G 73 o ∧ Below G w wr) (fun i _ => n - (intOf i).toNat)
  case atStart => exact ⟨0, _, Nat.zero_le _, rfl, MulInv.start (by decide) la lb, by rw [HN.out, HN'.out, HM.out]; exact HBLK.out, HB2.out⟩
  case round =>
    obtain ⟨j, o, hj, rfl, hmi, hblk, hbel⟩ := hrel
    have HMI := hJ hmi
    have HBK := hJ hblk
    have HBB := hJ hbel
    have HBW := hJ (show Below w.heap.size w wr by rw [HG.out]; exact hbel)
    clear hmi hblk hbel
    by_cases hlt : j < n
    · have HJL := hJ (show j < la.length by have := HN.out; omega)
      have HRI := hJ (HMI.out.row (by decide))
      obtain ⟨wo, hwo⟩ : ∃ wo : World, wo = wr := ⟨_, rfl⟩
      rw [← hwo] at HBK HBB HBW ⊢
      clear hwo HMI
      obtain ⟨b1, o1, rfl, hb1, hx1⟩ := (HX.out.new HBW.out).at_ hlt
      have d1 := dig_getD (B := 4294967296) (by decide) HDA.out j
      obtain ⟨f, hf⟩ : ∃ f, la.getD j 0 = f := ⟨_, rfl⟩
      rw [hf] at hx1 d1
      have HF := hJ hf
      have HFL := hJ d1
      clear hf d1
      go_wp2_with fail
      refine (multiplying_any (f : Int) wo).mono ?_
      rintro e w3 ⟨rfl, hw3⟩
      obtain ⟨C, hC⟩ : ∃ C, wo.heap.size = C := ⟨_, rfl⟩
      rw [hC]
      have HBF := hJ (show Boxed w3 C 73 (.int .u32 (f : Int)) by rw [← hw3, ← hC]; exact (Boxed.new _ _ _).alloc _)
      have HBX := hJ (show Boxed w3 (C + 1) 76 (.int .u64 ((0 : Nat) : Int)) by
        rw [← hw3, ← hC]
        have := Boxed.new (wo.alloc (.cells #[.int .u32 (f : Int)] 73)) 76 (.int .u64 0)
        rw [World.size_alloc] at this
        exact this)
      have HB3 := hJ (show Blk .u32 w3 G 73 o by rw [← hw3]; exact (HBK.out.alloc _).alloc _)
      have HBL := hJ (show Below G w w3 by rw [← hw3]; exact (HBB.out.alloc (Nat.le_of_lt HBK.out.lt) _).alloc (by have := HBK.out.lt; simp; omega) _)
      have HGC := hJ (show G < C by rw [← hC]; exact HBK.out.lt)
      clear hw3 hC HBK HBB HBW hx1
      go_wp2
      go_loopw [28] (fun i wr => ∃ (k q : Nat) (o : List Nat), k ≤ n' ∧ i = .int .i64 k ∧ RowInv 4294967296 la lb j k q o ∧ Boxed wr C 73 (.int .u32 (f : Int)) ∧ Boxed wr (C + 1) 76 (.int .u64 (q : Int)) ∧ Blk .u32 wr G 73 o ∧ Below G w wr) (fun i _ => n' - (intOf i).toNat)
      case atStart => exact ⟨0, 0, o, Nat.zero_le _, rfl, HRI.out, HBF.out, HBX.out, HB3.out, HBL.out⟩
      case round =>
        clear HRI HBF HBX HB3 HBL o
        obtain ⟨k, q, o, hk, rfl, hri, hbf, hbx, hblk, hbel⟩ := hrel
        have HRI := hJ hri
        have HBF := hJ hbf
        have HBX := hJ hbx
        have HBK := hJ hblk
        have HBB := hJ hbel
        have HBW := hJ (show Below w.heap.size w wr by rw [HG.out]; exact hbel)
        have HOL := hJ (show o.length = m by rw [hri.len, HN.out, HN'.out]; exact HM.out)
        have HQ := hJ hri.carry
        clear hri hbf hbx hblk hbel
        by_cases hkl : k < n'
        · have HKL := hJ (show k < lb.length by have := HN'.out; omega)
          have HST := hJ (HRI.out.step' (by decide) HDA.out HDB.out HJL.out HKL.out)
          rw [HF.out] at HST
          obtain ⟨b2, o2, rfl, hb2', hx2⟩ := (HY.out.new HBW.out).at_ hkl
          have hx3 := HBK.out.cell (i := j + k) (by have := HOL.out; have := HM.out; omega)
          have hf3 := HBK.out.frozen (j + k)
          have d2 := dig_getD (B := 4294967296) (by decide) HDB.out k
          have d3 := dig_getD (B := 4294967296) (by decide) HRI.out.dig (j + k)
          have HC1 := hJ (multiplying1_any (lb.getD k 0) (o.getD (j + k) 0) f q C (C + 1) wr d2 d3 HFL.out HQ.out HBF.out HBX.out)
          generalize lb.getD k 0 = x0 at hx2 d2 HST HC1
          generalize o.getD (j + k) 0 = y0 at hx3 d3 HST HC1
          obtain ⟨d, hd⟩ : ∃ d, (x0 * f + y0 + q) % 4294967296 = d := ⟨_, rfl⟩
          obtain ⟨q', hq'⟩ : ∃ d, (x0 * f + y0 + q) / 4294967296 = d := ⟨_, rfl⟩
          rw [hd] at HST HC1
          rw [hq'] at HST HC1
          clear hd hq' d2 d3
          have hj0 : (0 : Int) ≤ (j : Int) := by omega
          have hk0 : (0 : Int) ≤ (k : Int) := by omega
          have hjk0 : (0 : Int) ≤ (j : Int) + (k : Int) := by omega
          have hjk1 : (j : Int) + (k : Int) < (m : Int) := by have := HM.out; omega
          have e5 : ((j : Int) + (k : Int)).toNat = j + k := by omega
          go_wp2_with fail
          refine HC1.out.mono ?_
          rintro e w4 ⟨rfl, hw4⟩
          have hb4 : Blk .u32 w4 G 73 o := by
            rw [← hw4]; exact HBK.out.far (by have := HGC.out; show G ≠ C + 1; omega) _
          have hcell4 := hb4.cell (i := j + k) (by have := HOL.out; have := HM.out; omega)
          obtain ⟨y1, hy1⟩ : ∃ y1, o.getD (j + k) 0 = y1 := ⟨_, rfl⟩
          rw [hy1] at hcell4
          have hfr4 := hb4.frozen (j + k)
          have HF4 := hJ (show Boxed w4 C 73 (.int .u32 (f : Int)) by rw [← hw4]; exact bx_far HBF.out (p := ⟨C + 1, 0, none⟩) (by show C ≠ C + 1; omega) _)
          have HX4 := hJ (show Boxed w4 (C + 1) 76 (.int .u64 (q' : Int)) by rw [← hw4]; exact HBX.out.set _)
          have HK4 := hJ (show Below G w w4 by rw [← hw4]; exact HBB.out.setCell (p := ⟨C + 1, 0, none⟩) (by have := HGC.out; show G ≤ C + 1; omega) _)
          have HS4 := hJ (hb4.set_ (j + k) d)
          clear hw4 hb4 hy1
          go_wp2
          go_roundw
          case rel => exact ⟨k + 1, q', o.set (j + k) d, by omega, by go_num, HST.out, bx_far HF4.out (p := ⟨G, j + k, none⟩) (by have := HGC.out; show C ≠ G; omega) _, bx_far HX4.out (p := ⟨G, j + k, none⟩) (by have := HGC.out; show C + 1 ≠ G; omega) _, HS4.out, HK4.out.setCell (p := ⟨G, j + k, none⟩) (Nat.le_refl _) _⟩
          case measure => simp [intOf]; omega
        · obtain rfl : k = n' := by omega
          have HDN := hJ (show MulInv 4294967296 la lb (j + 1) (o.set (j + k) q) by
            have := HRI.out
            rw [← HN'.out] at this ⊢
            exact this.done HJL.out)
          have HC1 := hJ (multiplying1_any 0 0 f q C (C + 1) wr (by decide) (by decide) HFL.out HQ.out HBF.out HBX.out)
          rw [show 0 * f + 0 + q = q by omega, Nat.mod_eq_of_lt HQ.out] at HC1
          have hjk1 : (j : Int) + (k : Int) < (m : Int) := by have := HM.out; omega
          have e5 : ((j : Int) + (k : Int)).toNat = j + k := by omega
          go_wp2_with fail
          refine HC1.out.mono ?_
          rintro e w4 ⟨rfl, hw4⟩
          have hb4 : Blk .u32 w4 G 73 o := by
            rw [← hw4]; exact HBK.out.far (by have := HGC.out; show G ≠ C + 1; omega) _
          have hcell4 := hb4.cell (i := j + k) (by have := HOL.out; have := HM.out; omega)
          obtain ⟨y1, hy1⟩ : ∃ y1, o.getD (j + k) 0 = y1 := ⟨_, rfl⟩
          rw [hy1] at hcell4
          have hfr4 := hb4.frozen (j + k)
          have HK4 := hJ (show Below G w w4 by rw [← hw4]; exact HBB.out.setCell (p := ⟨C + 1, 0, none⟩) (by have := HGC.out; show G ≤ C + 1; omega) _)
          have HS4 := hJ (hb4.set_ (j + k) q)
          clear hw4 hb4 hy1
          go_wp2
          go_roundw
          case rel => exact ⟨j + 1, o.set (j + k) q, by omega, by go_num, HDN.out, HS4.out, HK4.out.setCell (p := ⟨G, j + k, none⟩) (Nat.le_refl _) _⟩
          case measure => simp [intOf]; omega
    · obtain rfl : j = n := by omega
      have HV := hJ (show val 4294967296 o = val 4294967296 la * val 4294967296 lb by
        have h := HMI.out
        rw [← HN.out] at h
        exact h.all)
      have HOL := hJ (show o.length = m by rw [HMI.out.len, HN.out, HN'.out]; exact HM.out)
      go_wp2
      go_ret
      exact ⟨G, m, o, rfl, Nat.le_of_eq HG.out, HBK.out, HOL.out, HMI.out.dig, ⟨HV.out, HOL.out⟩, HBW.out⟩
end Go.Proofs.Ytdamadkhbeonaaa

namespace Go.Proofs.Ytdamadkhbeonaaa
open Go.RowKit
attribute [local go_sem ↓] Go.wp_at_zero Go.wp_at_succ

end Go.Proofs.Ytdamadkhbeonaaa

namespace Go.Proofs.Ytdamadkhbeonaaa
open Go.RowKit
attribute [local go_sem ↓] Go.wp_at_zero Go.wp_at_succ

end Go.Proofs.Ytdamadkhbeonaaa

namespace Go.Proofs.Ytdamadkhbeonaaa
open Go.RowKit
attribute [local go_sem ↓] Go.wp_at_zero Go.wp_at_succ

end Go.Proofs.Ytdamadkhbeonaaa

