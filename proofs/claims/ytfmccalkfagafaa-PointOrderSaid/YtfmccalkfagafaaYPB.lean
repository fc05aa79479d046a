/- Contracts of the program's points: Valid, the closure of Of, rational. Conditions: as each statement has them. -/
import Derived.Test.YtfmccalkfagafaaYFI
import Derived.Test.YtfmccalkfagafaaYPA
namespace Go.Proofs.Ytfmccalkfagafaa
open Go.RowKit
attribute [local go_sem ↓] Go.wp_at_zero Go.wp_at_succ
/-- What Valid returns. -/
def vdC (x y : Int) : Int := if (-1073741824 ≤ x ∧ -1073741824 ≤ y) ∧ (x ≤ 1073741824 ∧ y ≤ 1073741824) then 0 else 5
set_option maxRecDepth 100000 in
set_option maxHeartbeats 1600000 in
theorem valid_any (x y : Int) (w : World) :
    Calls Try.prog 36 #[.agg #[.int .i64 x, .int .i64 y]] w fun e w' => e = .returned (.int .i64 (vdC x y)) ∧ Below w.heap.size w w' := by
  obtain ⟨W, hW⟩ : ∃ W, w.alloc (.cells #[.int .i64 x, .int .i64 y] 44) = W := ⟨_, rfl⟩
  have HK := Lib.hid (show Below w.heap.size w W by rw [← hW]; exact (Below.refl _ w).alloc (Nat.le_refl _) _)
  have HA := Lib.hid (show P2 44 W w.heap.size (.int .i64 x) (.int .i64 y) by rw [← hW]; exact P2.lit _ _ _ _)
  obtain ⟨a0, a1⟩ := HA.out.cells
  go_enter Try.func36, Try.ntmps36
  go_wp2_with fail
  refine (integers_any x y W).mono ?_
  rintro e w1 ⟨rfl, hb1⟩
  have HB1 := Lib.hid (bt HK.out hb1)
  have HA1 := Lib.hid (HA.out.new hb1)
  clear hb1 a0 a1
  go_wp2_with fail
  refine (notgr_any (-1073741824) (-1073741824) x y w1).mono ?_
  rintro e w2 ⟨rfl, hb2⟩
  have HB2 := Lib.hid (bt HB1.out hb2)
  have HA2 := Lib.hid (HA1.out.new hb2)
  clear hb2
  by_cases h1 : -1073741824 ≤ x ∧ -1073741824 ≤ y
  · rw [decide_eq_true h1]
    have HO1 := Lib.hid h1
    clear h1
    obtain ⟨a0, a1⟩ := HA2.out.cells
    go_wp2_with fail
    refine (integers_any x y w2).mono ?_
    rintro e w3 ⟨rfl, hb3⟩
    have HB3 := Lib.hid (bt HB2.out hb3)
    clear hb3
    go_wp2_with fail
    refine (notgr_any x y 1073741824 1073741824 w3).mono ?_
    rintro e w4 ⟨rfl, hb4⟩
    have HB4 := Lib.hid (bt HB3.out hb4)
    clear hb4
    by_cases h2 : x ≤ 1073741824 ∧ y ≤ 1073741824
    · rw [decide_eq_true h2]
      have HV := Lib.hid (show vdC x y = 0 from if_pos ⟨HO1.out, h2⟩)
      clear h2
      go_wp2
      go_ret
      exact ⟨by rw [HV.out]; rfl, HB4.out⟩
    · rw [decide_eq_false h2]
      have HV := Lib.hid (show vdC x y = 5 from if_neg (fun h => h2 h.2))
      clear h2
      go_wp2
      go_ret
      exact ⟨by rw [HV.out]; rfl, HB4.out⟩
  · rw [decide_eq_false h1]
    have HV := Lib.hid (show vdC x y = 5 from if_neg (fun h => h1 h.1))
    clear h1
    go_wp2
    go_ret
    exact ⟨by rw [HV.out]; rfl, HB2.out⟩
theorem mk_one (n : Int) : mkP n 1 = n ∧ mkQ n 1 = 1 ∧ mkC 1 = 0 := by
  have h : mkD n 1 = 1 := by
    unfold mkD
    rw [if_neg (by decide)]
    simp
  refine ⟨?_, ?_, rfl⟩
  · rw [mkP, if_neg (by decide), h, Int.ediv_one]
  · rw [mkQ, if_neg (by decide), h]; rfl
set_option maxRecDepth 100000 in
set_option maxHeartbeats 1600000 in
theorem ofone_any (n : Int) (w : World) (hn : (Lit.int .i64 n).wf = true) :
    Calls Try.prog 60 #[.int .i64 n] w (RetFE n 1 0 w) := by
  have HN := Lib.hid hn
  clear hn
  obtain ⟨W, hW⟩ : ∃ W, w.alloc (.cells #[.bool false, .slice none 0 0, .bool false, .slice none 0 0] 31) = W := ⟨_, rfl⟩
  have HK := Lib.hid (show Below w.heap.size w W by rw [← hW]; exact (Below.refl _ w).alloc (Nat.le_refl _) _)
  have HZ := Lib.hid (show P4 31 W w.heap.size (.bool false) (.slice none 0 0) (.bool false) (.slice none 0 0) by rw [← hW]; exact P4.lit _ _ _ _ _ _)
  go_enter Try.func60, Try.ntmps60
  go_wp2_with fail
  refine (fof_any n 1 W HN.out (by decide)).mono ?_
  rw [(mk_one n).1, (mk_one n).2.1, (mk_one n).2.2]
  rintro e w3 ⟨s3, A3, n3, c3, s4, A4, n4, c4, rfl, hr3, hb3⟩
  have HR3 := Lib.hid hr3
  have HB3 := Lib.hid (bt HK.out hb3)
  have HZ3 := Lib.hid (HZ.out.new hb3)
  clear hr3 hb3
  obtain ⟨z0, z1, z2, z3⟩ := HZ3.out.cells
  have f0 := HZ3.out.frozen 0
  have f1 := HZ3.out.frozen 1
  have f2 := HZ3.out.frozen 2
  have f3 := HZ3.out.frozen 3
  go_wp2
  exact bodyPost_ret (results_cell1 rfl _ _ _ _ _ _ _ rfl (HZ3.out.all (.bool s3) (.slice A3 n3 c3) (.bool s4) (.slice A4 n4 c4)) Try.underlying31 rfl F_size) rfl (RetFE.stored HR3.out HZ3.out HB3.out (Nat.le_refl _) _ _ _ _)
/-- Block b is just eight cells, none frozen. -/
def P8 (t : TypeId) (w : World) (b : Nat) (v0 v1 v2 v3 v4 v5 v6 v7 : Value) : Prop := w.heap[b]? = some (.cells #[v0, v1, v2, v3, v4, v5, v6, v7] t (0, 0))
section
variable {t : TypeId} {w w' : World} {b : Nat} {v0 v1 v2 v3 v4 v5 v6 v7 : Value}
theorem P8.lt (h : P8 t w b v0 v1 v2 v3 v4 v5 v6 v7) : b < w.heap.size := (Array.getElem?_eq_some_iff.1 h).1
theorem P8.cells (h : P8 t w b v0 v1 v2 v3 v4 v5 v6 v7) : (w.cell? ⟨b, 0, none⟩ = some v0 ∧ w.cell? ⟨b, 1, none⟩ = some v1 ∧ w.cell? ⟨b, 2, none⟩ = some v2 ∧ w.cell? ⟨b, 3, none⟩ = some v3) ∧ w.cell? ⟨b, 4, none⟩ = some v4 ∧ w.cell? ⟨b, 5, none⟩ = some v5 ∧ w.cell? ⟨b, 6, none⟩ = some v6 ∧ w.cell? ⟨b, 7, none⟩ = some v7 := by
  unfold P8 at h
  refine ⟨⟨?_, ?_, ?_, ?_⟩, ?_, ?_, ?_, ?_⟩ <;> simp [World.cell?, h]
theorem P8.frozen (h : P8 t w b v0 v1 v2 v3 v4 v5 v6 v7) (i : Nat) : w.frozen? ⟨b, i, none⟩ = false := by
  unfold P8 at h
  simp [World.frozen?, h]
theorem P8.new (h : P8 t w b v0 v1 v2 v3 v4 v5 v6 v7) (hb : Below w.heap.size w w') : P8 t w' b v0 v1 v2 v3 v4 v5 v6 v7 := (hb.block b h.lt).trans h
theorem P8.lit (w : World) (t : TypeId) (v0 v1 v2 v3 v4 v5 v6 v7 : Value) : P8 t (w.alloc (.cells #[v0, v1, v2, v3, v4, v5, v6, v7] t)) w.heap.size v0 v1 v2 v3 v4 v5 v6 v7 := heap_alloc_new w _
theorem P8.far (h : P8 t w b v0 v1 v2 v3 v4 v5 v6 v7) {p : Addr} (hp : b ≠ p.block) (u : Value) : P8 t (w.setCell p u) b v0 v1 v2 v3 v4 v5 v6 v7 := (Below.heap_setCell w p u b hp).trans h
theorem P8.lo (h : P8 t w b v0 v1 v2 v3 v4 v5 v6 v7) (u0 u1 u2 u3 : Value) : P8 t ((((w.setCell ⟨b, 0, none⟩ u0).setCell ⟨b, 1, none⟩ u1).setCell ⟨b, 2, none⟩ u2).setCell ⟨b, 3, none⟩ u3) b u0 u1 u2 u3 v4 v5 v6 v7 := by
  unfold P8 at h ⊢
  simp [World.setCell, Array.getElem?_modify, h]
theorem P8.hi (h : P8 t w b v0 v1 v2 v3 v4 v5 v6 v7) (u0 u1 u2 u3 : Value) : P8 t ((((w.setCell ⟨b, 4, none⟩ u0).setCell ⟨b, 5, none⟩ u1).setCell ⟨b, 6, none⟩ u2).setCell ⟨b, 7, none⟩ u3) b v0 v1 v2 v3 u0 u1 u2 u3 := by
  unfold P8 at h ⊢
  simp [World.setCell, Array.getElem?_modify, h]
theorem P8.all (h : P8 t w b v0 v1 v2 v3 v4 v5 v6 v7) (u0 u1 u2 u3 u4 u5 u6 u7 : Value) : P8 t ((((((((w.setCell ⟨b, 0, none⟩ u0).setCell ⟨b, 1, none⟩ u1).setCell ⟨b, 2, none⟩ u2).setCell ⟨b, 3, none⟩ u3).setCell ⟨b, 4, none⟩ u4).setCell ⟨b, 5, none⟩ u5).setCell ⟨b, 6, none⟩ u6).setCell ⟨b, 7, none⟩ u7) b u0 u1 u2 u3 u4 u5 u6 u7 := by
  unfold P8 at h ⊢
  simp [World.setCell, Array.getElem?_modify, h]
end
/-- A block of no words of 32 bits. -/
def NoW (w : World) (b : Nat) : Prop := ∀ o x, w.cell? ⟨b, o, none⟩ ≠ some (.int .u32 x)
def isW : Value → Bool
  | .int .u32 _ => true
  | _ => false
theorem noW_of {w : World} {b : Nat} {cs : Array Value} {t : TypeId} (h : w.heap[b]? = some (.cells cs t (0, 0))) (hn : cs.toList.all (fun v => !isW v) = true) : NoW w b := by
  intro o x e
  rw [cell_of_row w b o _ t (0, 0) h] at e
  have hm : Value.int .u32 x ∈ cs.toList := Array.mem_toList_iff.2 (Array.mem_of_getElem? e)
  have := List.all_eq_true.1 hn _ hm
  simp [isW] at this
theorem PIo.apart {ok : Nat → Prop} {w w' : World} {s : Bool} {A : Option Addr} {n c : Nat} {x : Int} {b : Nat} (h : PIo ok w s A n c x) (hk : Kp (· = b) w w') (hn : NoW w b) : PIo ok w' s A n c x := ⟨h.1, h.2.1, h.2.2.apart hk (fun g e _ o x => by subst e; exact hn o x)⟩
theorem PF.apart {w w' : World} {s s' : Bool} {A A' : Option Addr} {n c n' c' : Nat} {p q : Int} {b : Nat} (h : PF w s A n c s' A' n' c' p q) (hk : Kp (· = b) w w') (hn : NoW w b) : PF w' s A n c s' A' n' c' p q := ⟨PIo.apart h.1 hk hn, PIo.apart h.2 hk hn⟩
theorem kp4 (w : World) (b o : Nat) (u0 u1 u2 u3 : Value) : Kp (· = b) w ((((w.setCell ⟨b, o, none⟩ u0).setCell ⟨b, o + 1, none⟩ u1).setCell ⟨b, o + 2, none⟩ u2).setCell ⟨b, o + 3, none⟩ u3) :=
  ((((Kp.refl (· = b) w).setCell (p := ⟨b, o, none⟩) (fun _ => rfl) u0).setCell (p := ⟨b, o + 1, none⟩) (fun _ => rfl) u1).setCell (p := ⟨b, o + 2, none⟩) (fun _ => rfl) u2).setCell (p := ⟨b, o + 3, none⟩) (fun _ => rfl) u3
theorem below4 {w0 w : World} {B b : Nat} (h : Below B w0 w) (hb : B ≤ b) (o : Nat) (u0 u1 u2 u3 : Value) : Below B w0 ((((w.setCell ⟨b, o, none⟩ u0).setCell ⟨b, o + 1, none⟩ u1).setCell ⟨b, o + 2, none⟩ u2).setCell ⟨b, o + 3, none⟩ u3) :=
  (((h.setCell (p := ⟨b, o, none⟩) hb u0).setCell (p := ⟨b, o + 1, none⟩) hb u1).setCell (p := ⟨b, o + 2, none⟩) hb u2).setCell (p := ⟨b, o + 3, none⟩) hb u3
theorem kp8 (w : World) (b : Nat) (u0 u1 u2 u3 u4 u5 u6 u7 : Value) : Kp (· = b) w ((((((((w.setCell ⟨b, 0, none⟩ u0).setCell ⟨b, 1, none⟩ u1).setCell ⟨b, 2, none⟩ u2).setCell ⟨b, 3, none⟩ u3).setCell ⟨b, 4, none⟩ u4).setCell ⟨b, 5, none⟩ u5).setCell ⟨b, 6, none⟩ u6).setCell ⟨b, 7, none⟩ u7) :=
  ((((((((Kp.refl (· = b) w).setCell (p := ⟨b, 0, none⟩) (fun _ => rfl) u0).setCell (p := ⟨b, 1, none⟩) (fun _ => rfl) u1).setCell (p := ⟨b, 2, none⟩) (fun _ => rfl) u2).setCell (p := ⟨b, 3, none⟩) (fun _ => rfl) u3).setCell (p := ⟨b, 4, none⟩) (fun _ => rfl) u4).setCell (p := ⟨b, 5, none⟩) (fun _ => rfl) u5).setCell (p := ⟨b, 6, none⟩) (fun _ => rfl) u6).setCell (p := ⟨b, 7, none⟩) (fun _ => rfl) u7
theorem below8 {w0 w : World} {B b : Nat} (h : Below B w0 w) (hb : B ≤ b) (u0 u1 u2 u3 u4 u5 u6 u7 : Value) : Below B w0 ((((((((w.setCell ⟨b, 0, none⟩ u0).setCell ⟨b, 1, none⟩ u1).setCell ⟨b, 2, none⟩ u2).setCell ⟨b, 3, none⟩ u3).setCell ⟨b, 4, none⟩ u4).setCell ⟨b, 5, none⟩ u5).setCell ⟨b, 6, none⟩ u6).setCell ⟨b, 7, none⟩ u7) :=
  (((((((h.setCell (p := ⟨b, 0, none⟩) hb u0).setCell (p := ⟨b, 1, none⟩) hb u1).setCell (p := ⟨b, 2, none⟩) hb u2).setCell (p := ⟨b, 3, none⟩) hb u3).setCell (p := ⟨b, 4, none⟩) hb u4).setCell (p := ⟨b, 5, none⟩) hb u5).setCell (p := ⟨b, 6, none⟩) hb u6).setCell (p := ⟨b, 7, none⟩) hb u7
end Go.Proofs.Ytfmccalkfagafaa
