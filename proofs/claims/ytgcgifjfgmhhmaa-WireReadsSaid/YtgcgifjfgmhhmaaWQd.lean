/- The contract of the reference reader's Read. -/
import Derived.Test.YtgcgifjfgmhhmaaWQr
namespace Go.Proofs.Ytgcgifjfgmhhmaa
open Go.RowKit

/-- What read leaves. -/
def RRead (k : Nat) (g : Nat) (ok : Nat → Prop) (s : St) (w : World) (e : Ending) (w' : World) : Prop :=
  ∃ y : Y, e = .returned y.agg ∧ y.x = (readV k s).1 ∧ y.In w' (fun _ => True) ∧ Rdr 47 w' g ok (readV k s).2 ∧ Own1 g w w'
set_option maxHeartbeats 1600000 in
theorem rread0 (g : Nat) (ok : Nat → Prop) (s : St) (w : World) (h : Rdr 47 w g ok s) (hok : ∀ b, ok b → b < w.heap.size) :
    Calls Try.prog 23 #[.pointer (some ⟨g, 0, none⟩), .int .i64 0] w (RRead 0 g ok s w) := by
  have HR := Lib.hid (h.new (W5_k w 0))
  have HG := Lib.hid h.lt
  have HOK := Lib.hid hok
  clear h hok
  go_enter Try.func23, Try.ntmps23
  go_wp2_with fail
  refine (rruint_any g ok s (W5 w 0) HR.out).mono ?_
  rintro e w3 ⟨rfl, hw3, hk3⟩
  have b1 := (W5_a w 0).kp hk3 (fun e => by have := HG.out; omega)
  have b2 := (W5_b w 0).kp hk3 (fun e => by have := HG.out; omega)
  obtain ⟨c10, c11, c12, c13, c14⟩ := b1.cells
  obtain ⟨c20, c21, c22, c23, c24⟩ := b2.cells
  have f10 := b1.frozen 0
  have f11 := b1.frozen 1
  have f12 := b1.frozen 2
  have f13 := b1.frozen 3
  have f14 := b1.frozen 4
  have f21 := b2.frozen 1
  have HW := Lib.hid hw3
  have HB := Lib.hid b1
  have HK := Lib.hid hk3
  clear b1 b2 hw3 hk3
  go_wp2
  have hr := (HB.out.far (p := ⟨w.heap.size + 1, 1, none⟩) (by simp) (.int .u64 (uintS s).1)).all (.int .i64 0) (.int .u64 (uintS s).1) (.int .i64 0) (.slice none 0 0) (.slice none 0 0)
  have hkp := ((Kp.refl (fun b => b = w.heap.size ∨ b = w.heap.size + 1) w3).setCell (p := ⟨w.heap.size + 1, 1, none⟩) (fun _ => .inr rfl) (.int .u64 (uintS s).1)).all2 (.inl rfl) (.int .i64 0) (.int .u64 (uintS s).1) (.int .i64 0) (.slice none 0 0) (.slice none 0 0)
  have HS2 : (W5 w 0).heap.size = w.heap.size + 2 := by simp [W5]
  refine bodyPost_ret (results_cell_row rfl _ _ _ _ _ _ _ rfl hr Try.underlying28 rfl val_size) rfl ⟨⟨⟨0, (uintS s).1, 0, [], []⟩, .slice none 0 0, .slice none 0 0⟩, rfl, rfl, ⟨In.nil, In.nil⟩, ?_, ?_⟩
  · exact HW.out.kp hkp (fun e => by have := HG.out; omega) (fun b _ hb e => by have := HOK.out b hb; omega)
  · exact ((Kp.new (W5_k w 0)).step HK.out (fun _ _ h => h)).step hkp (fun k h1 h2 => by omega)
set_option maxHeartbeats 1600000 in
theorem rread1 (g : Nat) (ok : Nat → Prop) (s : St) (w : World) (h : Rdr 47 w g ok s) (hok : ∀ b, ok b → b < w.heap.size) :
    Calls Try.prog 23 #[.pointer (some ⟨g, 0, none⟩), .int .i64 1] w (RRead 1 g ok s w) := by
  have HR := Lib.hid (h.new (W5_k w 1))
  have HG := Lib.hid h.lt
  have HOK := Lib.hid hok
  clear h hok
  go_enter Try.func23, Try.ntmps23
  go_wp2_with fail
  refine (rrint_any g ok s (W5 w 1) HR.out).mono ?_
  rintro e w3 ⟨rfl, hw3, hk3⟩
  have b1 := (W5_a w 1).kp hk3 (fun e => by have := HG.out; omega)
  have b2 := (W5_b w 1).kp hk3 (fun e => by have := HG.out; omega)
  obtain ⟨c10, c11, c12, c13, c14⟩ := b1.cells
  obtain ⟨c20, c21, c22, c23, c24⟩ := b2.cells
  have f10 := b1.frozen 0
  have f11 := b1.frozen 1
  have f12 := b1.frozen 2
  have f13 := b1.frozen 3
  have f14 := b1.frozen 4
  have f21 := b2.frozen 2
  have HW := Lib.hid hw3
  have HB := Lib.hid b1
  have HK := Lib.hid hk3
  clear b1 b2 hw3 hk3
  go_wp2
  have hr := (HB.out.far (p := ⟨w.heap.size + 1, 2, none⟩) (by simp) (.int .i64 (intS s).1)).all (.int .i64 1) (.int .u64 0) (.int .i64 (intS s).1) (.slice none 0 0) (.slice none 0 0)
  have hkp := ((Kp.refl (fun b => b = w.heap.size ∨ b = w.heap.size + 1) w3).setCell (p := ⟨w.heap.size + 1, 2, none⟩) (fun _ => .inr rfl) (.int .i64 (intS s).1)).all2 (.inl rfl) (.int .i64 1) (.int .u64 0) (.int .i64 (intS s).1) (.slice none 0 0) (.slice none 0 0)
  have HS2 : (W5 w 1).heap.size = w.heap.size + 2 := by simp [W5]
  refine bodyPost_ret (results_cell_row rfl _ _ _ _ _ _ _ rfl hr Try.underlying28 rfl val_size) rfl ⟨⟨⟨1, 0, (intS s).1, [], []⟩, .slice none 0 0, .slice none 0 0⟩, rfl, rfl, ⟨In.nil, In.nil⟩, ?_, ?_⟩
  · exact HW.out.kp hkp (fun e => by have := HG.out; omega) (fun b _ hb e => by have := HOK.out b hb; omega)
  · exact ((Kp.new (W5_k w 1)).step HK.out (fun _ _ h => h)).step hkp (fun k h1 h2 => by omega)
set_option maxHeartbeats 1600000 in
theorem rread2t (g : Nat) (ok : Nat → Prop) (s : St) (w : World) (h : Rdr 47 w g ok s) (hok : ∀ b, ok b → b < w.heap.size) (hv : (boolS s).1 = true) :
    Calls Try.prog 23 #[.pointer (some ⟨g, 0, none⟩), .int .i64 2] w (RRead 2 g ok s w) := by
  have HR := Lib.hid (h.new (W5_k w 2))
  have HG := Lib.hid h.lt
  have HOK := Lib.hid hok
  clear h hok
  have HV := Lib.hid hv
  clear hv
  go_enter Try.func23, Try.ntmps23
  go_wp2_with fail
  refine (rrbool_any g ok s (W5 w 2) HR.out).mono ?_
  rw [HV.out]
  rintro e w3 ⟨rfl, hw3, hk3⟩
  have b1 := (W5_a w 2).kp hk3 (fun e => by have := HG.out; omega)
  have b2 := (W5_b w 2).kp hk3 (fun e => by have := HG.out; omega)
  obtain ⟨c10, c11, c12, c13, c14⟩ := b1.cells
  obtain ⟨c20, c21, c22, c23, c24⟩ := b2.cells
  have f10 := b1.frozen 0
  have f11 := b1.frozen 1
  have f12 := b1.frozen 2
  have f13 := b1.frozen 3
  have f14 := b1.frozen 4
  have f21 := b2.frozen 2
  have HW := Lib.hid hw3
  have HB := Lib.hid b1
  have HK := Lib.hid hk3
  clear b1 b2 hw3 hk3
  go_wp2
  have hr := (HB.out.far (p := ⟨w.heap.size + 1, 2, none⟩) (by simp) (.int .i64 1)).all (.int .i64 2) (.int .u64 0) (.int .i64 1) (.slice none 0 0) (.slice none 0 0)
  have hkp := ((Kp.refl (fun b => b = w.heap.size ∨ b = w.heap.size + 1) w3).setCell (p := ⟨w.heap.size + 1, 2, none⟩) (fun _ => .inr rfl) (.int .i64 1)).all2 (.inl rfl) (.int .i64 2) (.int .u64 0) (.int .i64 1) (.slice none 0 0) (.slice none 0 0)
  have HS2 : (W5 w 2).heap.size = w.heap.size + 2 := by simp [W5]
  refine bodyPost_ret (results_cell_row rfl _ _ _ _ _ _ _ rfl hr Try.underlying28 rfl val_size) rfl ⟨⟨⟨2, 0, 1, [], []⟩, .slice none 0 0, .slice none 0 0⟩, rfl, by simp [readV, HV.out], ⟨In.nil, In.nil⟩, ?_, ?_⟩
  · exact HW.out.kp hkp (fun e => by have := HG.out; omega) (fun b _ hb e => by have := HOK.out b hb; omega)
  · exact ((Kp.new (W5_k w 2)).step HK.out (fun _ _ h => h)).step hkp (fun k h1 h2 => by omega)
set_option maxHeartbeats 1600000 in
theorem rread2f (g : Nat) (ok : Nat → Prop) (s : St) (w : World) (h : Rdr 47 w g ok s) (hok : ∀ b, ok b → b < w.heap.size) (hv : (boolS s).1 = false) :
    Calls Try.prog 23 #[.pointer (some ⟨g, 0, none⟩), .int .i64 2] w (RRead 2 g ok s w) := by
  have HR := Lib.hid (h.new (W5_k w 2))
  have HG := Lib.hid h.lt
  have HOK := Lib.hid hok
  clear h hok
  have HV := Lib.hid hv
  clear hv
  go_enter Try.func23, Try.ntmps23
  go_wp2_with fail
  refine (rrbool_any g ok s (W5 w 2) HR.out).mono ?_
  rw [HV.out]
  rintro e w3 ⟨rfl, hw3, hk3⟩
  have b1 := (W5_a w 2).kp hk3 (fun e => by have := HG.out; omega)
  have b2 := (W5_b w 2).kp hk3 (fun e => by have := HG.out; omega)
  obtain ⟨c10, c11, c12, c13, c14⟩ := b1.cells
  obtain ⟨c20, c21, c22, c23, c24⟩ := b2.cells
  have f10 := b1.frozen 0
  have f11 := b1.frozen 1
  have f12 := b1.frozen 2
  have f13 := b1.frozen 3
  have f14 := b1.frozen 4
  have f21 := b2.frozen 2
  have HW := Lib.hid hw3
  have HB := Lib.hid b1
  have HK := Lib.hid hk3
  clear b1 b2 hw3 hk3
  go_wp2
  have hr := HB.out.all (.int .i64 2) (.int .u64 0) (.int .i64 0) (.slice none 0 0) (.slice none 0 0)
  have hkp := (Kp.refl (fun b => b = w.heap.size ∨ b = w.heap.size + 1) w3).all2 (.inl rfl) (.int .i64 2) (.int .u64 0) (.int .i64 0) (.slice none 0 0) (.slice none 0 0)
  have HS2 : (W5 w 2).heap.size = w.heap.size + 2 := by simp [W5]
  refine bodyPost_ret (results_cell_row rfl _ _ _ _ _ _ _ rfl hr Try.underlying28 rfl val_size) rfl ⟨⟨⟨2, 0, 0, [], []⟩, .slice none 0 0, .slice none 0 0⟩, rfl, by simp [readV, HV.out], ⟨In.nil, In.nil⟩, ?_, ?_⟩
  · exact HW.out.kp hkp (fun e => by have := HG.out; omega) (fun b _ hb e => by have := HOK.out b hb; omega)
  · exact ((Kp.new (W5_k w 2)).step HK.out (fun _ _ h => h)).step hkp (fun k h1 h2 => by omega)
set_option maxHeartbeats 1600000 in
theorem rread3 (g : Nat) (ok : Nat → Prop) (s : St) (w : World) (h : Rdr 47 w g ok s) (hok : ∀ b, ok b → b < w.heap.size) :
    Calls Try.prog 23 #[.pointer (some ⟨g, 0, none⟩), .int .i64 3] w (RRead 3 g ok s w) := by
  have HR := Lib.hid (h.new (W5_k w 3))
  have HG := Lib.hid h.lt
  have HOK := Lib.hid hok
  clear h hok
  go_enter Try.func23, Try.ntmps23
  go_wp2_with fail
  refine (rrraw_any g ok s (W5 w 3) HR.out).mono ?_
  rintro e w3 ⟨⟨a, n, c, rfl, hin⟩, hw3, hk3⟩
  have HO := Lib.hid hin
  clear hin
  have b1 := (W5_a w 3).kp hk3 (fun e => by have := HG.out; omega)
  have b2 := (W5_b w 3).kp hk3 (fun e => by have := HG.out; omega)
  obtain ⟨c10, c11, c12, c13, c14⟩ := b1.cells
  obtain ⟨c20, c21, c22, c23, c24⟩ := b2.cells
  have f10 := b1.frozen 0
  have f11 := b1.frozen 1
  have f12 := b1.frozen 2
  have f13 := b1.frozen 3
  have f14 := b1.frozen 4
  have f21 := b2.frozen 3
  have HW := Lib.hid hw3
  have HB := Lib.hid b1
  have HK := Lib.hid hk3
  clear b1 b2 hw3 hk3
  go_wp2
  have hr := (HB.out.far (p := ⟨w.heap.size + 1, 3, none⟩) (by simp) (.slice a n c)).all (.int .i64 3) (.int .u64 0) (.int .i64 0) (.slice a n c) (.slice none 0 0)
  have hkp := ((Kp.refl (fun b => b = w.heap.size ∨ b = w.heap.size + 1) w3).setCell (p := ⟨w.heap.size + 1, 3, none⟩) (fun _ => .inr rfl) (.slice a n c)).all2 (.inl rfl) (.int .i64 3) (.int .u64 0) (.int .i64 0) (.slice a n c) (.slice none 0 0)
  have HS2 : (W5 w 3).heap.size = w.heap.size + 2 := by simp [W5]
  refine bodyPost_ret (results_cell_row rfl _ _ _ _ _ _ _ rfl hr Try.underlying28 rfl val_size) rfl ⟨⟨⟨3, 0, 0, (partS s).1, []⟩, .slice a n c, .slice none 0 0⟩, rfl, rfl, ⟨(HO.out.kp hkp (fun b _ hb e => by have := HOK.out b hb; omega)).mono (fun _ _ _ => trivial), In.nil⟩, ?_, ?_⟩
  · exact HW.out.kp hkp (fun e => by have := HG.out; omega) (fun b _ hb e => by have := HOK.out b hb; omega)
  · exact ((Kp.new (W5_k w 3)).step HK.out (fun _ _ h => h)).step hkp (fun k h1 h2 => by omega)
set_option maxHeartbeats 1600000 in
theorem rread4 (g : Nat) (ok : Nat → Prop) (s : St) (w : World) (h : Rdr 47 w g ok s) (hok : ∀ b, ok b → b < w.heap.size) :
    Calls Try.prog 23 #[.pointer (some ⟨g, 0, none⟩), .int .i64 4] w (RRead 4 g ok s w) := by
  have HR := Lib.hid (h.new (W5_k w 4))
  have HG := Lib.hid h.lt
  have HOK := Lib.hid hok
  clear h hok
  go_enter Try.func23, Try.ntmps23
  go_wp2_with fail
  refine (rrraw_any g ok s (W5 w 4) HR.out).mono ?_
  rintro e w3 ⟨⟨a, n, c, rfl, hin⟩, hw3, hk3⟩
  have HO := Lib.hid hin
  clear hin
  have b1 := (W5_a w 4).kp hk3 (fun e => by have := HG.out; omega)
  have b2 := (W5_b w 4).kp hk3 (fun e => by have := HG.out; omega)
  obtain ⟨c10, c11, c12, c13, c14⟩ := b1.cells
  obtain ⟨c20, c21, c22, c23, c24⟩ := b2.cells
  have f10 := b1.frozen 0
  have f11 := b1.frozen 1
  have f12 := b1.frozen 2
  have f13 := b1.frozen 3
  have f14 := b1.frozen 4
  have f21 := b2.frozen 3
  have HW := Lib.hid hw3
  have HB := Lib.hid b1
  have HK := Lib.hid hk3
  clear b1 b2 hw3 hk3
  go_wp2
  have hr := (HB.out.far (p := ⟨w.heap.size + 1, 3, none⟩) (by simp) (.slice a n c)).all (.int .i64 4) (.int .u64 0) (.int .i64 0) (.slice a n c) (.slice none 0 0)
  have hkp := ((Kp.refl (fun b => b = w.heap.size ∨ b = w.heap.size + 1) w3).setCell (p := ⟨w.heap.size + 1, 3, none⟩) (fun _ => .inr rfl) (.slice a n c)).all2 (.inl rfl) (.int .i64 4) (.int .u64 0) (.int .i64 0) (.slice a n c) (.slice none 0 0)
  have HS2 : (W5 w 4).heap.size = w.heap.size + 2 := by simp [W5]
  refine bodyPost_ret (results_cell_row rfl _ _ _ _ _ _ _ rfl hr Try.underlying28 rfl val_size) rfl ⟨⟨⟨4, 0, 0, (partS s).1, []⟩, .slice a n c, .slice none 0 0⟩, rfl, rfl, ⟨(HO.out.kp hkp (fun b _ hb e => by have := HOK.out b hb; omega)).mono (fun _ _ _ => trivial), In.nil⟩, ?_, ?_⟩
  · exact HW.out.kp hkp (fun e => by have := HG.out; omega) (fun b _ hb e => by have := HOK.out b hb; omega)
  · exact ((Kp.new (W5_k w 4)).step HK.out (fun _ _ h => h)).step hkp (fun k h1 h2 => by omega)
set_option maxHeartbeats 1600000 in
theorem rread5 (g : Nat) (ok : Nat → Prop) (s : St) (w : World) (h : Rdr 47 w g ok s) (hok : ∀ b, ok b → b < w.heap.size) (hl : (lenS s).1 ≤ 100000) :
    Calls Try.prog 23 #[.pointer (some ⟨g, 0, none⟩), .int .i64 5] w (RRead 5 g ok s w) := by
  have HR := Lib.hid (h.new (W5_k w 5))
  have HG := Lib.hid h.lt
  have HOK := Lib.hid hok
  clear h hok
  have HL := Lib.hid hl
  clear hl
  go_enter Try.func23, Try.ntmps23
  go_wp2_with fail
  refine (rrints_any g ok s (W5 w 5) HR.out HL.out (fun b hb => by have := HOK.out b hb; have := (W5_k w 5).size; omega)).mono ?_
  rintro e w3 ⟨⟨a, n, c, rfl, hn, hown⟩, hw3, hk3⟩
  have HN := Lib.hid hn
  have HO := Lib.hid hown
  clear hn hown
  have b1 := (W5_a w 5).kp hk3 (fun e => by have := HG.out; omega)
  have b2 := (W5_b w 5).kp hk3 (fun e => by have := HG.out; omega)
  obtain ⟨c10, c11, c12, c13, c14⟩ := b1.cells
  obtain ⟨c20, c21, c22, c23, c24⟩ := b2.cells
  have f10 := b1.frozen 0
  have f11 := b1.frozen 1
  have f12 := b1.frozen 2
  have f13 := b1.frozen 3
  have f14 := b1.frozen 4
  have f21 := b2.frozen 4
  have HW := Lib.hid hw3
  have HB := Lib.hid b1
  have HK := Lib.hid hk3
  clear b1 b2 hw3 hk3
  go_wp2
  have hr := (HB.out.far (p := ⟨w.heap.size + 1, 4, none⟩) (by simp) (.slice a n c)).all (.int .i64 5) (.int .u64 0) (.int .i64 0) (.slice none 0 0) (.slice a n c)
  have hkp := ((Kp.refl (fun b => b = w.heap.size ∨ b = w.heap.size + 1) w3).setCell (p := ⟨w.heap.size + 1, 4, none⟩) (fun _ => .inr rfl) (.slice a n c)).all2 (.inl rfl) (.int .i64 5) (.int .u64 0) (.int .i64 0) (.slice none 0 0) (.slice a n c)
  have HS2 : (W5 w 5).heap.size = w.heap.size + 2 := by simp [W5]
  refine bodyPost_ret (results_cell_row rfl _ _ _ _ _ _ _ rfl hr Try.underlying28 rfl val_size) rfl ⟨⟨⟨5, 0, 0, [], (intsS s).1⟩, .slice none 0 0, .slice a n c⟩, rfl, rfl, ⟨In.nil, ((In.own HO.out).kp hkp (fun b _ hb e => by rw [HS2] at hb; omega)).mono (fun _ _ _ => trivial)⟩, ?_, ?_⟩
  · exact HW.out.kp hkp (fun e => by have := HG.out; omega) (fun b _ hb e => by have := HOK.out b hb; omega)
  · exact ((Kp.new (W5_k w 5)).step HK.out (fun _ _ h => h)).step hkp (fun k h1 h2 => by omega)
theorem rread_any (k : Nat) (g : Nat) (ok : Nat → Prop) (s : St) (w : World) (hk : k ≤ 5) (h : Rdr 47 w g ok s) (hok : ∀ b, ok b → b < w.heap.size) :
    Calls Try.prog 23 #[.pointer (some ⟨g, 0, none⟩), .int .i64 k] w (RRead k g ok s w) := by
  obtain ⟨a, n, c, l, hr, hi, hl, hn, ho⟩ := h
  have h : Rdr 47 w g ok s := ⟨a, n, c, l, hr, hi, hl, hn, ho⟩
  match k, hk with
  | 0, _ => exact rread0 g ok s w h hok
  | 1, _ => exact rread1 g ok s w h hok
  | 2, _ =>
    rcases hb : (boolS s).1 with _ | _
    · exact rread2f g ok s w h hok hb
    · exact rread2t g ok s w h hok hb
  | 3, _ => exact rread3 g ok s w h hok
  | 4, _ => exact rread4 g ok s w h hok
  | 5, _ => exact rread5 g ok s w h hok (lenS_small hl hn)
end Go.Proofs.Ytgcgifjfgmhhmaa
