/- Contracts of the program's words: a word, the carries' closures. -/
import Derived.Test.YtpcliampffeknaaNR9
import Derived.RangeFuncBox
namespace Go.Proofs.Ytpcliampffeknaa
open Go.RowKit
attribute [local go_sem ↓] Go.wp_at_zero Go.wp_at_succ

theorem w32_info : (Try.prog.info? 75).map (fun i => (i.zero, i.size, i.bytes)) = some (some (.int .u32 0), 1, 4) := by kernel_rfl
theorem w32_size (W : World) : (sizeOf 75).run Try.prog W = .ok 1 W := by kernel_rfl

theorem wordAt_any (l : List Nat) (A : Option Addr) (n c j : Nat) (w : World) (hl : LI .u32 w (.slice A n c) l) (_hn : n ≤ 1000000) (_hj : j ≤ 1000000) :
    Calls Try.prog 69 #[.slice A n c, .int .i64 (j : Int)] w fun e w' => e = .returned (.int .u32 ((l.getD j 0 : Nat) : Int)) ∧ w = w' := by
  by_cases h : j < n
  · obtain ⟨b, off, rfl, hb, hc⟩ := hl.at_ h
    clear hl
    generalize l.getD j 0 = x at hc
    go_enter Try.func69, Try.ntmps69
    go_wp2
    go_ret
    exact ⟨rfl, rfl⟩
  · have h0 : l.getD j 0 = 0 := getD_out (by have := hl.len; omega)
    rw [h0]
    clear hl h0
    go_enter Try.func69, Try.ntmps69
    go_wp2
    go_ret
    exact ⟨rfl, rfl⟩
theorem adding_any (w : World) : Calls Try.prog 74 #[] w fun e w' => e = .returned (.func (.func 83) #[] #[.pointer (some ⟨w.heap.size, 0, none⟩)]) ∧ w.alloc (.cells #[.int .u64 0] 83) = w' := by
  go_enter Try.func74, Try.ntmps74
  go_wp2
  go_ret
  exact ⟨rfl, rfl⟩
theorem subtracting_any (w : World) : Calls Try.prog 82 #[] w fun e w' => e = .returned (.func (.func 89) #[] #[.pointer (some ⟨w.heap.size, 0, none⟩)]) ∧ w.alloc (.cells #[.int .u64 0] 83) = w' := by
  go_enter Try.func82, Try.ntmps82
  go_wp2
  go_ret
  exact ⟨rfl, rfl⟩
theorem multiplying_any (f : Int) (w : World) : Calls Try.prog 68 #[.int .u32 f] w fun e w' => e = .returned (.func (.func 80) #[] #[.pointer (some ⟨w.heap.size, 0, none⟩), .pointer (some ⟨w.heap.size + 1, 0, none⟩)]) ∧ (w.alloc (.cells #[.int .u32 f] 75)).alloc (.cells #[.int .u64 0] 83) = w' := by
  go_enter Try.func68, Try.ntmps68
  go_wp2
  go_ret
  exact ⟨rfl, rfl⟩
theorem adding1_any (x y q g : Nat) (w : World) (hx : x < 4294967296) (hy : y < 4294967296) (hq : q ≤ 1) (h : Boxed w g 83 (.int .u64 (q : Int))) :
    Calls Try.prog 83 #[.int .u32 (x : Int), .int .u32 (y : Int), .pointer (some ⟨g, 0, none⟩)] w fun e w' => e = .returned (.int .u32 (((x + y + q) % 4294967296 : Nat) : Int)) ∧ w.setCell ⟨g, 0, none⟩ (.int .u64 (((x + y + q) / 4294967296 : Nat) : Int)) = w' := by
  have hc := h.cell
  have hf := h.frozen
  obtain ⟨X, hX⟩ : ∃ X : Int, (x : Int) = X := ⟨_, rfl⟩
  obtain ⟨Y, hY⟩ : ∃ X : Int, (y : Int) = X := ⟨_, rfl⟩
  obtain ⟨Q, hQ⟩ : ∃ X : Int, (q : Int) = X := ⟨_, rfl⟩
  rw [show (((x + y + q) % 4294967296 : Nat) : Int) = (X + Y + Q) % 4294967296 by omega, show (((x + y + q) / 4294967296 : Nat) : Int) = (X + Y + Q) / 4294967296 by omega, hX, hY]
  rw [hQ] at hc
  have hX1 : 0 ≤ X := by omega
  have hX2 : X < 4294967296 := by omega
  have hY1 : 0 ≤ Y := by omega
  have hY2 : Y < 4294967296 := by omega
  have hQ1 : 0 ≤ Q := by omega
  have hQ2 : Q ≤ 1 := by omega
  clear hX hY hQ hx hy hq h
  go_enter Try.func83, Try.ntmps83
  go_wp2
  go_ret
  refine ⟨?_, ?_⟩
  · rfl
  · rfl
/-- What is borrowed, and what is left. -/
def sbo (x y q : Nat) : Nat := if x < y + q then 1 else 0
def sle (x y q : Nat) : Nat := x + 4294967296 * sbo x y q - y - q
theorem sb_eq {x y q : Nat} (hy : y < 4294967296) (hq : q ≤ 1) : sle x y q + y + q = x + 4294967296 * sbo x y q := by
  unfold sle sbo; split <;> omega
theorem sle_lt {x y q : Nat} (hx : x < 4294967296) : sle x y q < 4294967296 := by
  unfold sle sbo; split <;> omega
theorem sbo_le (x y q : Nat) : sbo x y q ≤ 1 := by unfold sbo; split <;> omega
theorem wu64 (n : Int) : IntKind.u64.wrap n = n % 18446744073709551616 := by simp [IntKind.wrap, IntKind.bits, IntKind.signed]
theorem sub_wrap1 {X Y Q : Int} (h1 : 0 ≤ X) (h2 : X < 4294967296) (h3 : 0 ≤ Y) (h4 : Y < 4294967296) (h5 : 0 ≤ Q) (h6 : Q ≤ 1) (h : X < Y + Q) :
    IntKind.u64.wrap (IntKind.u64.wrap (X - Y) - Q) % 4294967296 = X - Y - Q + 4294967296 ∧ IntKind.u64.wrap (IntKind.u64.wrap (X - Y) - Q) / 9223372036854775808 = 1 := by
  rw [wu64, wu64]; omega
theorem subtracting1_any (x y q g : Nat) (w : World) (hx : x < 4294967296) (hy : y < 4294967296) (hq : q ≤ 1) (h : Boxed w g 83 (.int .u64 (q : Int))) :
    Calls Try.prog 89 #[.int .u32 (x : Int), .int .u32 (y : Int), .pointer (some ⟨g, 0, none⟩)] w fun e w' => e = .returned (.int .u32 ((sle x y q : Nat) : Int)) ∧ w.setCell ⟨g, 0, none⟩ (.int .u64 ((sbo x y q : Nat) : Int)) = w' := by
  have hc := h.cell
  have hf := h.frozen
  obtain ⟨X, hX⟩ : ∃ X : Int, (x : Int) = X := ⟨_, rfl⟩
  obtain ⟨Y, hY⟩ : ∃ X : Int, (y : Int) = X := ⟨_, rfl⟩
  obtain ⟨Q, hQ⟩ : ∃ X : Int, (q : Int) = X := ⟨_, rfl⟩
  have hX1 : 0 ≤ X := by omega
  have hX2 : X < 4294967296 := by omega
  have hY1 : 0 ≤ Y := by omega
  have hY2 : Y < 4294967296 := by omega
  have hQ1 : 0 ≤ Q := by omega
  have hQ2 : Q ≤ 1 := by omega
  by_cases hlt : x < y + q
  · have HD := Lib.hid (show ((sle x y q : Nat) : Int) = X - Y - Q + 4294967296 by unfold sle sbo; rw [if_pos hlt]; omega)
    have HB := Lib.hid (show ((sbo x y q : Nat) : Int) = 1 by unfold sbo; rw [if_pos hlt]; rfl)
    have hXY : X < Y + Q := by omega
    rw [HD.out, HB.out]
    rw [hX, hY]
    rw [hQ] at hc
    clear hX hY hQ hx hy hq h hlt HD HB
    go_enter Try.func89, Try.ntmps89
    go_wp2
    go_ret
    obtain ⟨e1, e2⟩ := sub_wrap1 hX1 hX2 hY1 hY2 hQ1 hQ2 hXY
    exact ⟨ret_int e1, by rw [e2]⟩
  · have HD := Lib.hid (show ((sle x y q : Nat) : Int) = X - Y - Q by unfold sle sbo; rw [if_neg hlt]; omega)
    have HB := Lib.hid (show ((sbo x y q : Nat) : Int) = 0 by unfold sbo; rw [if_neg hlt]; rfl)
    have hXY : Y + Q ≤ X := by omega
    rw [HD.out, HB.out]
    rw [hX, hY]
    rw [hQ] at hc
    clear hX hY hQ hx hy hq h hlt HD HB
    have e1 : 0 ≤ X - Y := by omega
    have e2 : 0 ≤ X - Y - Q := by omega
    go_enter Try.func89, Try.ntmps89
    go_wp2
    go_ret
    refine ⟨ret_int ?_, ?_⟩
    · omega
    · rw [show (X - Y - Q) / 9223372036854775808 = 0 by omega]
theorem prod_bd {X F : Int} (h1 : 0 ≤ X) (h2 : X < 4294967296) (h3 : 0 ≤ F) (h4 : F < 4294967296) : 0 ≤ X * F ∧ X * F ≤ 18446744065119617025 := by
  refine ⟨Int.mul_nonneg h1 h3, ?_⟩
  have := Int.mul_le_mul (show X ≤ 4294967295 by omega) (show F ≤ 4294967295 by omega) h3 (by decide)
  omega
theorem multiplying1_any (x y f q g g' : Nat) (w : World) (hx : x < 4294967296) (hy : y < 4294967296) (hf : f < 4294967296) (hq : q < 4294967296) (h : Boxed w g 75 (.int .u32 (f : Int))) (h' : Boxed w g' 83 (.int .u64 (q : Int))) :
    Calls Try.prog 80 #[.int .u32 (x : Int), .int .u32 (y : Int), .pointer (some ⟨g, 0, none⟩), .pointer (some ⟨g', 0, none⟩)] w fun e w' => e = .returned (.int .u32 (((x * f + y + q) % 4294967296 : Nat) : Int)) ∧ w.setCell ⟨g', 0, none⟩ (.int .u64 (((x * f + y + q) / 4294967296 : Nat) : Int)) = w' := by
  have hc := h.cell
  have hc' := h'.cell
  have hf' := h'.frozen
  obtain ⟨X, hX⟩ : ∃ X : Int, (x : Int) = X := ⟨_, rfl⟩
  obtain ⟨Y, hY⟩ : ∃ X : Int, (y : Int) = X := ⟨_, rfl⟩
  obtain ⟨F, hF⟩ : ∃ X : Int, (f : Int) = X := ⟨_, rfl⟩
  obtain ⟨Q, hQ⟩ : ∃ X : Int, (q : Int) = X := ⟨_, rfl⟩
  have hX1 : 0 ≤ X := by omega
  have hX2 : X < 4294967296 := by omega
  have hY1 : 0 ≤ Y := by omega
  have hY2 : Y < 4294967296 := by omega
  have hF1 : 0 ≤ F := by omega
  have hF2 : F < 4294967296 := by omega
  have hQ1 : 0 ≤ Q := by omega
  have hQ2 : Q < 4294967296 := by omega
  have hT : ((x * f + y + q : Nat) : Int) = X * F + Y + Q := by rw [Int.natCast_add, Int.natCast_add, Int.natCast_mul, hX, hF, hY, hQ]
  rw [show (((x * f + y + q) % 4294967296 : Nat) : Int) = (X * F + Y + Q) % 4294967296 by rw [← hT]; rfl, show (((x * f + y + q) / 4294967296 : Nat) : Int) = (X * F + Y + Q) / 4294967296 by rw [← hT]; rfl, hX, hY]
  rw [hF] at hc
  rw [hQ] at hc'
  obtain ⟨b1, b2⟩ := prod_bd hX1 hX2 hF1 hF2
  clear hX hY hQ hF hx hy hq hf h h' hT
  go_enter Try.func80, Try.ntmps80
  go_wp2
  go_ret
  exact ⟨rfl, rfl⟩

theorem wordsOf_any (m : Nat) (w : World) (hm : m < 18446744073709551616) :
    Calls Try.prog 55 #[.int .u64 (m : Int)] w fun e w' => e = .returned (.slice (some ⟨w.heap.size, 0, none⟩) 2 2) ∧ Blk .u32 w' w.heap.size 75 [m % 4294967296, m / 4294967296] ∧ Below w.heap.size w w' := by
  obtain ⟨M, hM⟩ : ∃ X : Int, (m : Int) = X := ⟨_, rfl⟩
  have HB := Lib.hid (Blk.lit w .u32 75 [m % 4294967296, m / 4294967296])
  have h1 : 0 ≤ M := by omega
  have h2 : M < 18446744073709551616 := by omega
  have HE := Lib.hid (show w.alloc (.cells #[.int .u32 (M % 4294967296), .int .u32 (M / 4294967296)] 75) = w.alloc (.cells (vs .u32 (nI [m % 4294967296, m / 4294967296])).toArray 75) by
    simp only [nI, vs, List.map_cons, List.map_nil, ← hM]; rfl)
  rw [hM]
  clear hM hm
  go_enter Try.func55, Try.ntmps55
  go_wp2
  go_ret
  refine ⟨rfl, ?_, (Below.refl _ w).alloc (Nat.le_refl _) _⟩
  have := HB.out
  rw [← HE.out] at this
  exact this
theorem or_hi (a b : Nat) (ha : a < 4294967296) (hb : b < 4294967296) : bits .or .u64 ((a : Int) * 4294967296) (b : Int) = ((b + 4294967296 * a : Nat) : Int) := by
  rw [show (a : Int) * 4294967296 = ((a * 4294967296 : Nat) : Int) by omega, u64_or_nat _ _ (by omega) (by omega)]
  rw [nat_join 32 (a * 4294967296) b (by omega) (by omega)]
  omega
theorem lowest_any (l : List Nat) (A : Option Addr) (n c : Nat) (w : World) (hd : Dig 4294967296 l) (hl : LI .u32 w (.slice A n c) l) (hn : n ≤ 1000000) :
    Calls Try.prog 56 #[.slice A n c] w fun e w' => e = .returned (.int .u64 ((l.getD 0 0 + 4294967296 * l.getD 1 0 : Nat) : Int)) ∧ w = w' := by
  have d0 := dig_getD (by decide) hd 0
  have d1 := dig_getD (by decide) hd 1
  have H0 := Lib.hid (wordAt_any l A n c 0 w hl hn (by decide))
  have H1 := Lib.hid (wordAt_any l A n c 1 w hl hn (by decide))
  generalize l.getD 0 0 = x at d0 H0 ⊢
  generalize l.getD 1 0 = y at d1 H1 ⊢
  have HO := Lib.hid (or_hi y x d1 d0)
  obtain ⟨X, hX⟩ : ∃ X : Int, (x : Int) = X := ⟨_, rfl⟩
  obtain ⟨Y, hY⟩ : ∃ X : Int, (y : Int) = X := ⟨_, rfl⟩
  have hX1 : 0 ≤ X := by omega
  have hX2 : X < 4294967296 := by omega
  have hY1 : 0 ≤ Y := by omega
  have hY2 : Y < 4294967296 := by omega
  rw [hX] at H0 HO
  rw [hY] at H1 HO
  clear hX hY hd hl d0 d1
  go_enter Try.func56, Try.ntmps56
  go_wp2_with fail
  refine H1.out.mono ?_
  rintro e w' ⟨rfl, rfl⟩
  go_wp2_with fail
  refine H0.out.mono ?_
  rintro e w' ⟨rfl, rfl⟩
  go_wp2
  go_ret
  exact ⟨ret_int HO.out, rfl⟩
end Go.Proofs.Ytpcliampffeknaa
