/- The contract of the law's read. -/
import Derived.Test.YtgcgifjfgmhhmaaWRi
namespace Go.Proofs.Ytgcgifjfgmhhmaa
open Go.RowKit

/-- Block b is just the five cells of a value, none frozen. -/
def B5 (w : World) (b : Nat) (v0 v1 v2 v3 v4 : Value) : Prop := w.heap[b]? = some (.cells #[v0, v1, v2, v3, v4] 28 (0, 0))
section
variable {w w' : World} {b : Nat} {v0 v1 v2 v3 v4 : Value}
theorem B5.lt (h : B5 w b v0 v1 v2 v3 v4) : b < w.heap.size := (Array.getElem?_eq_some_iff.1 h).1
theorem B5.cells (h : B5 w b v0 v1 v2 v3 v4) : w.cell? ⟨b, 0, none⟩ = some v0 ∧ w.cell? ⟨b, 1, none⟩ = some v1 ∧ w.cell? ⟨b, 2, none⟩ = some v2 ∧ w.cell? ⟨b, 3, none⟩ = some v3 ∧ w.cell? ⟨b, 4, none⟩ = some v4 := by
  unfold B5 at h
  refine ⟨?_, ?_, ?_, ?_, ?_⟩ <;> simp [World.cell?, h]
theorem B5.frozen (h : B5 w b v0 v1 v2 v3 v4) (i : Nat) : w.frozen? ⟨b, i, none⟩ = false := by
  unfold B5 at h
  simp [World.frozen?, h]
theorem B5.kp {t : Nat → Prop} (h : B5 w b v0 v1 v2 v3 v4) (hk : Kp t w w') (ht : ¬ t b) : B5 w' b v0 v1 v2 v3 v4 := (hk.block b h.lt ht).trans h
end
/-- The world behind read's first rows: the result's block and the value's block, zero but for the kind. -/
def W5 (w : World) (k : Int) : World := (w.alloc (.cells #[.int .i64 0, .int .u64 0, .int .i64 0, .slice none 0 0, .slice none 0 0] 28)).alloc (.cells #[.int .i64 k, .int .u64 0, .int .i64 0, .slice none 0 0, .slice none 0 0] 28)
theorem W5_a (w : World) (k : Int) : B5 (W5 w k) w.heap.size (.int .i64 0) (.int .u64 0) (.int .i64 0) (.slice none 0 0) (.slice none 0 0) :=
  (Below.heap_alloc _ _ _ (by simp)).trans (World.alloc_heap_new w _)
theorem W5_b (w : World) (k : Int) : B5 (W5 w k) (w.heap.size + 1) (.int .i64 k) (.int .u64 0) (.int .i64 0) (.slice none 0 0) (.slice none 0 0) := by
  have := World.alloc_heap_new (w.alloc (.cells #[.int .i64 0, .int .u64 0, .int .i64 0, .slice none 0 0, .slice none 0 0] 28)) (.cells #[.int .i64 k, .int .u64 0, .int .i64 0, .slice none 0 0, .slice none 0 0] 28)
  rw [World.size_alloc] at this
  exact this
theorem W5_k (w : World) (k : Int) : Below w.heap.size w (W5 w k) := ((Below.refl _ w).alloc (Nat.le_refl _) _).alloc (by simp) _

theorem B5.far {w : World} {b : Nat} {v0 v1 v2 v3 v4 : Value} (h : B5 w b v0 v1 v2 v3 v4) {p : Addr} (hp : b ≠ p.block) (u : Value) : B5 (w.setCell p u) b v0 v1 v2 v3 v4 := (Below.heap_setCell w p u b hp).trans h
theorem B5.all {w : World} {b : Nat} {v0 v1 v2 v3 v4 : Value} (h : B5 w b v0 v1 v2 v3 v4) (u0 u1 u2 u3 u4 : Value) :
    B5 (((((w.setCell ⟨b, 0, none⟩ u0).setCell ⟨b, 1, none⟩ u1).setCell ⟨b, 2, none⟩ u2).setCell ⟨b, 3, none⟩ u3).setCell ⟨b, 4, none⟩ u4) b u0 u1 u2 u3 u4 := by
  unfold B5 at h ⊢
  simp [World.setCell, Array.getElem?_modify, h]
theorem Kp.all {t : Nat → Prop} {w w' : World} (h : Kp t w w') {b : Nat} (hb : w.heap.size ≤ b) (u0 u1 u2 u3 u4 : Value) :
    Kp t w (((((w'.setCell ⟨b, 0, none⟩ u0).setCell ⟨b, 1, none⟩ u1).setCell ⟨b, 2, none⟩ u2).setCell ⟨b, 3, none⟩ u3).setCell ⟨b, 4, none⟩ u4) :=
  have hx : ∀ i, (Addr.mk b i none).block < w.heap.size → t (Addr.mk b i none).block := fun _ h => absurd h (by show ¬ b < _; omega)
  ((((h.setCell (hx 0) u0).setCell (hx 1) u1).setCell (hx 2) u2).setCell (hx 3) u3).setCell (hx 4) u4
theorem Kp.all2 {t : Nat → Prop} {w w' : World} (h : Kp t w w') {b : Nat} (hb : t b) (u0 u1 u2 u3 u4 : Value) :
    Kp t w (((((w'.setCell ⟨b, 0, none⟩ u0).setCell ⟨b, 1, none⟩ u1).setCell ⟨b, 2, none⟩ u2).setCell ⟨b, 3, none⟩ u3).setCell ⟨b, 4, none⟩ u4) :=
  have hx : ∀ i, (Addr.mk b i none).block < w.heap.size → t (Addr.mk b i none).block := fun _ _ => hb
  ((((h.setCell (hx 0) u0).setCell (hx 1) u1).setCell (hx 2) u2).setCell (hx 3) u3).setCell (hx 4) u4
theorem val_size : (Try.prog.info? 28).map (·.size) = some 5 := by kernel_rfl
theorem In.of_rd_at {k : IntKind} {w : World} {B b o n c : Nat} {zs : List Int} (h : Rd k w B (.slice (some ⟨b, o, none⟩) n c) zs) (hB : B ≤ w.heap.size) : In k w (· = b) (.slice (some ⟨b, o, none⟩) n c) zs := by
  rcases h with ⟨h, _⟩ | ⟨b', o', c', h1, h2, h3, h4⟩
  · injection h with h; cases h
  · injection h1 with e1 e2 e3
    injection e1 with e1
    injection e1 with e1 e4
    subst e1 e2 e3 e4
    exact .inr ⟨b, o, c, rfl, h2, rfl, Nat.lt_of_lt_of_le h3 hB, h4⟩
/-- What read leaves. -/
def Read (k : Nat) (g : Nat) (ok : Nat → Prop) (s : St) (w : World) (e : Ending) (w' : World) : Prop :=
  ∃ y : Y, e = .returned y.agg ∧ y.x = (readV k s).1 ∧ y.In w' (w.heap.size ≤ ·) ∧ Rdr 77 w' g ok (readV k s).2 ∧ Own1 g w w'
set_option maxHeartbeats 1600000 in
theorem lread0 (g : Nat) (ok : Nat → Prop) (s : St) (w : World) (h : Rdr 77 w g ok s) (hok : ∀ b, ok b → b < w.heap.size) :
    Calls Try.prog 22 #[.pointer (some ⟨g, 0, none⟩), .int .i64 0] w (Read 0 g ok s w) := by
  have HR := Lib.hid (h.new (W5_k w 0))
  have HG := Lib.hid h.lt
  have HOK := Lib.hid hok
  clear h hok
  go_enter Try.func22, Try.ntmps22
  go_wp2_with fail
  refine (ruint_any g ok s (W5 w 0) HR.out).mono ?_
  rintro e w3 ⟨rfl, hw3, hk3⟩
  have b1 := (W5_a w 0).kp hk3 (fun e => by have := HG.out; omega)
  have b2 := (W5_b w 0).kp hk3 (fun e => by have := HG.out; omega)
  obtain ⟨c10, c11, c12, c13, c14⟩ := b1.cells
  obtain ⟨c20, c21, c22, c23, c24⟩ := b2.cells
  have f10 := b1.frozen 0
  have f11 := b1.frozen 1
  have f12 := b1.frozen 2
  have f13 := b1.frozen 3
  have f14 := b1.frozen 4
  have f21 := b2.frozen 1
  have HW := Lib.hid hw3
  have HB := Lib.hid b1
  have HK := Lib.hid hk3
  clear b1 b2 hw3 hk3
  go_wp2
  have hr := (HB.out.far (p := ⟨w.heap.size + 1, 1, none⟩) (by simp) (.int .u64 (uintS s).1)).all (.int .i64 0) (.int .u64 (uintS s).1) (.int .i64 0) (.slice none 0 0) (.slice none 0 0)
  have hkp := ((Kp.refl (fun b => b = w.heap.size ∨ b = w.heap.size + 1) w3).setCell (p := ⟨w.heap.size + 1, 1, none⟩) (fun _ => .inr rfl) (.int .u64 (uintS s).1)).all2 (.inl rfl) (.int .i64 0) (.int .u64 (uintS s).1) (.int .i64 0) (.slice none 0 0) (.slice none 0 0)
  have HS2 : (W5 w 0).heap.size = w.heap.size + 2 := by simp [W5]
  refine bodyPost_ret (results_cell_row rfl _ _ _ _ _ _ _ rfl hr Try.underlying28 rfl val_size) rfl ⟨⟨⟨0, (uintS s).1, 0, [], []⟩, .slice none 0 0, .slice none 0 0⟩, rfl, rfl, ⟨In.nil, In.nil⟩, ?_, ?_⟩
  · exact HW.out.kp hkp (fun e => by have := HG.out; omega) (fun b _ hb e => by have := HOK.out b hb; omega)
  · exact ((Kp.new (W5_k w 0)).step HK.out (fun _ _ h => h)).step hkp (fun k h1 h2 => by omega)
set_option maxHeartbeats 1600000 in
theorem lread1 (g : Nat) (ok : Nat → Prop) (s : St) (w : World) (h : Rdr 77 w g ok s) (hok : ∀ b, ok b → b < w.heap.size) :
    Calls Try.prog 22 #[.pointer (some ⟨g, 0, none⟩), .int .i64 1] w (Read 1 g ok s w) := by
  have HR := Lib.hid (h.new (W5_k w 1))
  have HG := Lib.hid h.lt
  have HOK := Lib.hid hok
  clear h hok
  go_enter Try.func22, Try.ntmps22
  go_wp2_with fail
  refine (rdint_any g ok s (W5 w 1) HR.out).mono ?_
  rintro e w3 ⟨rfl, hw3, hk3⟩
  have b1 := (W5_a w 1).kp hk3 (fun e => by have := HG.out; omega)
  have b2 := (W5_b w 1).kp hk3 (fun e => by have := HG.out; omega)
  obtain ⟨c10, c11, c12, c13, c14⟩ := b1.cells
  obtain ⟨c20, c21, c22, c23, c24⟩ := b2.cells
  have f10 := b1.frozen 0
  have f11 := b1.frozen 1
  have f12 := b1.frozen 2
  have f13 := b1.frozen 3
  have f14 := b1.frozen 4
  have f21 := b2.frozen 2
  have HW := Lib.hid hw3
  have HB := Lib.hid b1
  have HK := Lib.hid hk3
  clear b1 b2 hw3 hk3
  go_wp2
  have hr := (HB.out.far (p := ⟨w.heap.size + 1, 2, none⟩) (by simp) (.int .i64 (intS s).1)).all (.int .i64 1) (.int .u64 0) (.int .i64 (intS s).1) (.slice none 0 0) (.slice none 0 0)
  have hkp := ((Kp.refl (fun b => b = w.heap.size ∨ b = w.heap.size + 1) w3).setCell (p := ⟨w.heap.size + 1, 2, none⟩) (fun _ => .inr rfl) (.int .i64 (intS s).1)).all2 (.inl rfl) (.int .i64 1) (.int .u64 0) (.int .i64 (intS s).1) (.slice none 0 0) (.slice none 0 0)
  have HS2 : (W5 w 1).heap.size = w.heap.size + 2 := by simp [W5]
  refine bodyPost_ret (results_cell_row rfl _ _ _ _ _ _ _ rfl hr Try.underlying28 rfl val_size) rfl ⟨⟨⟨1, 0, (intS s).1, [], []⟩, .slice none 0 0, .slice none 0 0⟩, rfl, rfl, ⟨In.nil, In.nil⟩, ?_, ?_⟩
  · exact HW.out.kp hkp (fun e => by have := HG.out; omega) (fun b _ hb e => by have := HOK.out b hb; omega)
  · exact ((Kp.new (W5_k w 1)).step HK.out (fun _ _ h => h)).step hkp (fun k h1 h2 => by omega)
set_option maxHeartbeats 1600000 in
theorem lread2t (g : Nat) (ok : Nat → Prop) (s : St) (w : World) (h : Rdr 77 w g ok s) (hok : ∀ b, ok b → b < w.heap.size) (hv : (boolS s).1 = true) :
    Calls Try.prog 22 #[.pointer (some ⟨g, 0, none⟩), .int .i64 2] w (Read 2 g ok s w) := by
  have HR := Lib.hid (h.new (W5_k w 2))
  have HG := Lib.hid h.lt
  have HOK := Lib.hid hok
  clear h hok
  have HV := Lib.hid hv
  clear hv
  go_enter Try.func22, Try.ntmps22
  go_wp2_with fail
  refine (rdbool_any g ok s (W5 w 2) HR.out).mono ?_
  rw [HV.out]
  rintro e w3 ⟨rfl, hw3, hk3⟩
  have b1 := (W5_a w 2).kp hk3 (fun e => by have := HG.out; omega)
  have b2 := (W5_b w 2).kp hk3 (fun e => by have := HG.out; omega)
  obtain ⟨c10, c11, c12, c13, c14⟩ := b1.cells
  obtain ⟨c20, c21, c22, c23, c24⟩ := b2.cells
  have f10 := b1.frozen 0
  have f11 := b1.frozen 1
  have f12 := b1.frozen 2
  have f13 := b1.frozen 3
  have f14 := b1.frozen 4
  have f21 := b2.frozen 2
  have HW := Lib.hid hw3
  have HB := Lib.hid b1
  have HK := Lib.hid hk3
  clear b1 b2 hw3 hk3
  go_wp2
  have hr := (HB.out.far (p := ⟨w.heap.size + 1, 2, none⟩) (by simp) (.int .i64 1)).all (.int .i64 2) (.int .u64 0) (.int .i64 1) (.slice none 0 0) (.slice none 0 0)
  have hkp := ((Kp.refl (fun b => b = w.heap.size ∨ b = w.heap.size + 1) w3).setCell (p := ⟨w.heap.size + 1, 2, none⟩) (fun _ => .inr rfl) (.int .i64 1)).all2 (.inl rfl) (.int .i64 2) (.int .u64 0) (.int .i64 1) (.slice none 0 0) (.slice none 0 0)
  have HS2 : (W5 w 2).heap.size = w.heap.size + 2 := by simp [W5]
  refine bodyPost_ret (results_cell_row rfl _ _ _ _ _ _ _ rfl hr Try.underlying28 rfl val_size) rfl ⟨⟨⟨2, 0, 1, [], []⟩, .slice none 0 0, .slice none 0 0⟩, rfl, by simp [readV, HV.out], ⟨In.nil, In.nil⟩, ?_, ?_⟩
  · exact HW.out.kp hkp (fun e => by have := HG.out; omega) (fun b _ hb e => by have := HOK.out b hb; omega)
  · exact ((Kp.new (W5_k w 2)).step HK.out (fun _ _ h => h)).step hkp (fun k h1 h2 => by omega)
set_option maxHeartbeats 1600000 in
theorem lread2f (g : Nat) (ok : Nat → Prop) (s : St) (w : World) (h : Rdr 77 w g ok s) (hok : ∀ b, ok b → b < w.heap.size) (hv : (boolS s).1 = false) :
    Calls Try.prog 22 #[.pointer (some ⟨g, 0, none⟩), .int .i64 2] w (Read 2 g ok s w) := by
  have HR := Lib.hid (h.new (W5_k w 2))
  have HG := Lib.hid h.lt
  have HOK := Lib.hid hok
  clear h hok
  have HV := Lib.hid hv
  clear hv
  go_enter Try.func22, Try.ntmps22
  go_wp2_with fail
  refine (rdbool_any g ok s (W5 w 2) HR.out).mono ?_
  rw [HV.out]
  rintro e w3 ⟨rfl, hw3, hk3⟩
  have b1 := (W5_a w 2).kp hk3 (fun e => by have := HG.out; omega)
  have b2 := (W5_b w 2).kp hk3 (fun e => by have := HG.out; omega)
  obtain ⟨c10, c11, c12, c13, c14⟩ := b1.cells
  obtain ⟨c20, c21, c22, c23, c24⟩ := b2.cells
  have f10 := b1.frozen 0
  have f11 := b1.frozen 1
  have f12 := b1.frozen 2
  have f13 := b1.frozen 3
  have f14 := b1.frozen 4
  have f21 := b2.frozen 2
  have HW := Lib.hid hw3
  have HB := Lib.hid b1
  have HK := Lib.hid hk3
  clear b1 b2 hw3 hk3
  go_wp2
  have hr := HB.out.all (.int .i64 2) (.int .u64 0) (.int .i64 0) (.slice none 0 0) (.slice none 0 0)
  have hkp := (Kp.refl (fun b => b = w.heap.size ∨ b = w.heap.size + 1) w3).all2 (.inl rfl) (.int .i64 2) (.int .u64 0) (.int .i64 0) (.slice none 0 0) (.slice none 0 0)
  have HS2 : (W5 w 2).heap.size = w.heap.size + 2 := by simp [W5]
  refine bodyPost_ret (results_cell_row rfl _ _ _ _ _ _ _ rfl hr Try.underlying28 rfl val_size) rfl ⟨⟨⟨2, 0, 0, [], []⟩, .slice none 0 0, .slice none 0 0⟩, rfl, by simp [readV, HV.out], ⟨In.nil, In.nil⟩, ?_, ?_⟩
  · exact HW.out.kp hkp (fun e => by have := HG.out; omega) (fun b _ hb e => by have := HOK.out b hb; omega)
  · exact ((Kp.new (W5_k w 2)).step HK.out (fun _ _ h => h)).step hkp (fun k h1 h2 => by omega)
set_option maxHeartbeats 1600000 in
theorem lread3 (g : Nat) (ok : Nat → Prop) (s : St) (w : World) (h : Rdr 77 w g ok s) (hok : ∀ b, ok b → b < w.heap.size) :
    Calls Try.prog 22 #[.pointer (some ⟨g, 0, none⟩), .int .i64 3] w (Read 3 g ok s w) := by
  have HR := Lib.hid (h.new (W5_k w 3))
  have HG := Lib.hid h.lt
  have HOK := Lib.hid hok
  clear h hok
  go_enter Try.func22, Try.ntmps22
  go_wp2_with fail
  refine (rdtext_any g ok s (W5 w 3) HR.out).mono ?_
  rintro e w0 ⟨rfl, hw0, hk0⟩
  obtain ⟨w3, c3, hconv, hb3, hr3⟩ := conv_bytes (P := Try.prog) w0 9 24 5 ⟨(partS s).1.toArray⟩ Try.underlying9 Try.underlying24 Try.underlying5
  have hw3 := hw0.new hb3
  have hk3 := hk0.step (Kp.new hb3) (fun _ _ h => h)
  have hi3 := In.of_rd_at hr3 (Nat.le_refl _)
  rw [show (ByteArray.mk (partS s).1.toArray).data.toList = (partS s).1 by simp] at hi3
  obtain ⟨str, hstr⟩ : ∃ str, ByteArray.mk (partS s).1.toArray = str := ⟨_, rfl⟩
  rw [hstr] at hconv hi3 ⊢
  obtain ⟨n, hn⟩ : ∃ n, str.size = n := ⟨_, rfl⟩
  rw [hn] at hconv hi3
  obtain ⟨B, hB⟩ : ∃ B, w0.heap.size = B := ⟨_, rfl⟩
  rw [hB] at hconv hi3
  have HBB := Lib.hid (show w.heap.size + 2 ≤ B by rw [← hB]; have := hk0.size; simp [W5] at this; omega)
  have HO := Lib.hid hi3
  clear hi3 hstr hn hB hr3 hb3 hw0 hk0
  have b1 := (W5_a w 3).kp hk3 (fun e => by have := HG.out; omega)
  have b2 := (W5_b w 3).kp hk3 (fun e => by have := HG.out; omega)
  obtain ⟨c10, c11, c12, c13, c14⟩ := b1.cells
  obtain ⟨c20, c21, c22, c23, c24⟩ := b2.cells
  have f10 := b1.frozen 0
  have f11 := b1.frozen 1
  have f12 := b1.frozen 2
  have f13 := b1.frozen 3
  have f14 := b1.frozen 4
  have f21 := b2.frozen 3
  have HW := Lib.hid hw3
  have HB := Lib.hid b1
  have HK := Lib.hid hk3
  clear b1 b2 hw3 hk3
  go_wp2
  have hr := (HB.out.far (p := ⟨w.heap.size + 1, 3, none⟩) (by simp) (.slice (some ⟨B, 0, none⟩) n c3)).all (.int .i64 3) (.int .u64 0) (.int .i64 0) (.slice (some ⟨B, 0, none⟩) n c3) (.slice none 0 0)
  have hkp := ((Kp.refl (fun b => b = w.heap.size ∨ b = w.heap.size + 1) w3).setCell (p := ⟨w.heap.size + 1, 3, none⟩) (fun _ => .inr rfl) (.slice (some ⟨B, 0, none⟩) n c3)).all2 (.inl rfl) (.int .i64 3) (.int .u64 0) (.int .i64 0) (.slice (some ⟨B, 0, none⟩) n c3) (.slice none 0 0)
  have HS2 : (W5 w 3).heap.size = w.heap.size + 2 := by simp [W5]
  refine bodyPost_ret (results_cell_row rfl _ _ _ _ _ _ _ rfl hr Try.underlying28 rfl val_size) rfl ⟨⟨⟨3, 0, 0, (partS s).1, []⟩, .slice (some ⟨B, 0, none⟩) n c3, .slice none 0 0⟩, rfl, rfl, ⟨(HO.out.kp hkp (fun b _ hb e => by have := HBB.out; omega)).mono (fun b _ hb => by have := HBB.out; omega), In.nil⟩, ?_, ?_⟩
  · exact HW.out.kp hkp (fun e => by have := HG.out; omega) (fun b _ hb e => by have := HOK.out b hb; omega)
  · exact ((Kp.new (W5_k w 3)).step HK.out (fun _ _ h => h)).step hkp (fun k h1 h2 => by omega)
set_option maxHeartbeats 1600000 in
theorem lread4 (g : Nat) (ok : Nat → Prop) (s : St) (w : World) (h : Rdr 77 w g ok s) (hok : ∀ b, ok b → b < w.heap.size) (hl : (partS s).1.length ≤ 1000000) :
    Calls Try.prog 22 #[.pointer (some ⟨g, 0, none⟩), .int .i64 4] w (Read 4 g ok s w) := by
  have HR := Lib.hid (h.new (W5_k w 4))
  have HG := Lib.hid h.lt
  have HOK := Lib.hid hok
  clear h hok
  have HL := Lib.hid hl
  clear hl
  go_enter Try.func22, Try.ntmps22
  go_wp2_with fail
  refine (rdraw_any g ok s (W5 w 4) HR.out HL.out).mono ?_
  rintro e w3 ⟨⟨a, n, c, rfl, hn, hown⟩, hw3, hk3⟩
  have HN := Lib.hid hn
  have HO := Lib.hid hown
  clear hn hown
  have b1 := (W5_a w 4).kp hk3 (fun e => by have := HG.out; omega)
  have b2 := (W5_b w 4).kp hk3 (fun e => by have := HG.out; omega)
  obtain ⟨c10, c11, c12, c13, c14⟩ := b1.cells
  obtain ⟨c20, c21, c22, c23, c24⟩ := b2.cells
  have f10 := b1.frozen 0
  have f11 := b1.frozen 1
  have f12 := b1.frozen 2
  have f13 := b1.frozen 3
  have f14 := b1.frozen 4
  have f21 := b2.frozen 3
  have HW := Lib.hid hw3
  have HB := Lib.hid b1
  have HK := Lib.hid hk3
  clear b1 b2 hw3 hk3
  go_wp2
  have hr := (HB.out.far (p := ⟨w.heap.size + 1, 3, none⟩) (by simp) (.slice a n c)).all (.int .i64 4) (.int .u64 0) (.int .i64 0) (.slice a n c) (.slice none 0 0)
  have hkp := ((Kp.refl (fun b => b = w.heap.size ∨ b = w.heap.size + 1) w3).setCell (p := ⟨w.heap.size + 1, 3, none⟩) (fun _ => .inr rfl) (.slice a n c)).all2 (.inl rfl) (.int .i64 4) (.int .u64 0) (.int .i64 0) (.slice a n c) (.slice none 0 0)
  have HS2 : (W5 w 4).heap.size = w.heap.size + 2 := by simp [W5]
  refine bodyPost_ret (results_cell_row rfl _ _ _ _ _ _ _ rfl hr Try.underlying28 rfl val_size) rfl ⟨⟨⟨4, 0, 0, (partS s).1, []⟩, .slice a n c, .slice none 0 0⟩, rfl, rfl, ⟨((In.own HO.out).kp hkp (fun b _ hb e => by rw [HS2] at hb; omega)).mono (fun b _ hb => by rw [HS2] at hb; omega), In.nil⟩, ?_, ?_⟩
  · exact HW.out.kp hkp (fun e => by have := HG.out; omega) (fun b _ hb e => by have := HOK.out b hb; omega)
  · exact ((Kp.new (W5_k w 4)).step HK.out (fun _ _ h => h)).step hkp (fun k h1 h2 => by omega)
set_option maxHeartbeats 1600000 in
theorem lread5 (g : Nat) (ok : Nat → Prop) (s : St) (w : World) (h : Rdr 77 w g ok s) (hok : ∀ b, ok b → b < w.heap.size) (hl : (lenS s).1 ≤ 100000) :
    Calls Try.prog 22 #[.pointer (some ⟨g, 0, none⟩), .int .i64 5] w (Read 5 g ok s w) := by
  have HR := Lib.hid (h.new (W5_k w 5))
  have HG := Lib.hid h.lt
  have HOK := Lib.hid hok
  clear h hok
  have HL := Lib.hid hl
  clear hl
  go_enter Try.func22, Try.ntmps22
  go_wp2_with fail
  refine (rdints_any g ok s (W5 w 5) HR.out HL.out (fun b hb => by have := HOK.out b hb; have := (W5_k w 5).size; omega)).mono ?_
  rintro e w3 ⟨⟨a, n, c, rfl, hn, hown⟩, hw3, hk3⟩
  have HN := Lib.hid hn
  have HO := Lib.hid hown
  clear hn hown
  have b1 := (W5_a w 5).kp hk3 (fun e => by have := HG.out; omega)
  have b2 := (W5_b w 5).kp hk3 (fun e => by have := HG.out; omega)
  obtain ⟨c10, c11, c12, c13, c14⟩ := b1.cells
  obtain ⟨c20, c21, c22, c23, c24⟩ := b2.cells
  have f10 := b1.frozen 0
  have f11 := b1.frozen 1
  have f12 := b1.frozen 2
  have f13 := b1.frozen 3
  have f14 := b1.frozen 4
  have f21 := b2.frozen 4
  have HW := Lib.hid hw3
  have HB := Lib.hid b1
  have HK := Lib.hid hk3
  clear b1 b2 hw3 hk3
  go_wp2
  have hr := (HB.out.far (p := ⟨w.heap.size + 1, 4, none⟩) (by simp) (.slice a n c)).all (.int .i64 5) (.int .u64 0) (.int .i64 0) (.slice none 0 0) (.slice a n c)
  have hkp := ((Kp.refl (fun b => b = w.heap.size ∨ b = w.heap.size + 1) w3).setCell (p := ⟨w.heap.size + 1, 4, none⟩) (fun _ => .inr rfl) (.slice a n c)).all2 (.inl rfl) (.int .i64 5) (.int .u64 0) (.int .i64 0) (.slice none 0 0) (.slice a n c)
  have HS2 : (W5 w 5).heap.size = w.heap.size + 2 := by simp [W5]
  refine bodyPost_ret (results_cell_row rfl _ _ _ _ _ _ _ rfl hr Try.underlying28 rfl val_size) rfl ⟨⟨⟨5, 0, 0, [], (intsS s).1⟩, .slice none 0 0, .slice a n c⟩, rfl, rfl, ⟨In.nil, ((In.own HO.out).kp hkp (fun b _ hb e => by rw [HS2] at hb; omega)).mono (fun b _ hb => by rw [HS2] at hb; omega)⟩, ?_, ?_⟩
  · exact HW.out.kp hkp (fun e => by have := HG.out; omega) (fun b _ hb e => by have := HOK.out b hb; omega)
  · exact ((Kp.new (W5_k w 5)).step HK.out (fun _ _ h => h)).step hkp (fun k h1 h2 => by omega)
end Go.Proofs.Ytgcgifjfgmhhmaa
