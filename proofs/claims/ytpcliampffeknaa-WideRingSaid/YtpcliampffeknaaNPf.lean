/- Contracts of the program's integers: Mul, Add, Sub. -/
import Derived.Test.YtpcliampffeknaaNPe
namespace Go.Proofs.Ytpcliampffeknaa
open Go.RowKit
attribute [local go_sem ↓] Go.wp_at_zero Go.wp_at_succ

theorem RetPE.stored {x code : Int} {w w6 : World} {neg : Bool} {A : Option Addr} {n c B : Nat} {z0 z1 : Value} {t : TypeId} (h : PI w6 neg A n c x) (hp : P2 t w6 B z0 z1) (h0 : isI z0 = false) (h1 : isI z1 = false) (hb : Below w.heap.size w w6) (hB : w.heap.size ≤ B) (u0 u1 : Value) :
    RetPE x code w (.returned (.tuple #[.agg #[.bool neg, .slice A n c], .int .i64 code])) ((w6.setCell ⟨B, 0, none⟩ u0).setCell ⟨B, 1, none⟩ u1) :=
  ⟨neg, A, n, c, rfl, h.box hp h0 h1 u0 u1, below_box hb hB u0 u1⟩
theorem in_lim {x : Int} (h : x.natAbs < lim) : outV x = x ∧ outC x = 0 := ⟨if_pos h, if_pos h⟩
theorem len_of {w : World} {neg : Bool} {A : Option Addr} {n c k : Nat} {s : Bool} {o : List Nat} {z : Int} (h : PI w neg A n c z) (hz : sgn s (val 4294967296 o) = z) (hd : Dig 4294967296 o) (hl : o.length = k) (hk : k ≤ 1000000) : n ≤ 1000000 := by
  have := h.2.1
  rw [← hz, sgn_abs] at this
  have := digs_len9 (B := 4294967296) (by decide) hd
  omega
set_option maxRecDepth 100000 in
set_option maxHeartbeats 1600000 in
theorem pmul_any (x y : Int) (s s' : Bool) (A A' : Option Addr) (n c n' c' : Nat) (w : World) (hx : PI w s A n c x) (hy : PI w s' A' n' c' y) (hn : n ≤ 300000) (hn' : n' ≤ 300000) :
    Calls Try.prog 38 #[.agg #[.bool s, .slice A n c], .agg #[.bool s', .slice A' n' c']] w (RetPE (outV (x * y)) (outC (x * y)) w) := by
  have HSX := Lib.hid hx.1
  have HSY := Lib.hid hy.1
  have HNX := Lib.hid hx.2.1
  have HNY := Lib.hid hy.2.1
  have HLX := Lib.hid hx.2.2
  have HLY := Lib.hid hy.2.2
  clear hx hy
  have HK := Lib.hid (show Below w.heap.size w (W3 33 w (.bool s) (.slice A n c) (.bool s') (.slice A' n' c') (.bool false) (.slice none 0 0)).drew from (W3_k 33 w (.bool s) (.slice A n c) (.bool s') (.slice A' n' c') (.bool false) (.slice none 0 0)).drew)
  have HA := Lib.hid (show P2 33 (W3 33 w (.bool s) (.slice A n c) (.bool s') (.slice A' n' c') (.bool false) (.slice none 0 0)).drew w.heap.size (.bool s) (.slice A n c) from (W3_a 33 w (.bool s) (.slice A n c) (.bool s') (.slice A' n' c') (.bool false) (.slice none 0 0)))
  have HB := Lib.hid (show P2 33 (W3 33 w (.bool s) (.slice A n c) (.bool s') (.slice A' n' c') (.bool false) (.slice none 0 0)).drew (w.heap.size + 1) (.bool s') (.slice A' n' c') from (W3_b 33 w (.bool s) (.slice A n c) (.bool s') (.slice A' n' c') (.bool false) (.slice none 0 0)))
  have HZ := Lib.hid (show P2 33 (W3 33 w (.bool s) (.slice A n c) (.bool s') (.slice A' n' c') (.bool false) (.slice none 0 0)).drew (w.heap.size + 1 + 1) (.bool false) (.slice none 0 0) from (W3_z 33 w (.bool s) (.slice A n c) (.bool s') (.slice A' n' c') (.bool false) (.slice none 0 0)))
  go_enter Try.func38, Try.ntmps38
  go_wp2_with fail
  go_region_held3 (fun w' => w'.cell? ⟨w.heap.size, 0, none⟩ = some (.bool s) ∧ w'.cell? ⟨w.heap.size, 1, none⟩ = some (.slice A n c) ∧ w'.cell? ⟨w.heap.size + 1, 0, none⟩ = some (.bool s') ∧ w'.cell? ⟨w.heap.size + 1, 1, none⟩ = some (.slice A' n' c')) (first | assumption | exact cells4 HA.out HB.out | exact cells4 (hA7.out.far2 (by omega) _ _) (hB7.out.far2 (by omega) _ _) | go_keep)
    (first | (go_at_call 66; refine (product_any _ _ A A' n n' c c' _ (dig_digs (by decide) x.natAbs) (dig_digs (by decide) y.natAbs) (HLX.out.new HK.out) (HLY.out.new HK.out) (by omega) (by omega)).mono ?_; rintro e w5 ⟨G5, n5, o5, rfl, hg5, hblk5, hol5, hod5, ⟨hov5, hon5⟩, hb5⟩; have hA5 := Lib.hid (HA.out.new hb5); have hB5 := Lib.hid (HB.out.new hb5); have hZ5 := Lib.hid (HZ.out.new hb5); have hS5 := cells4 hA5.out hB5.out; have HVV := Lib.hid (show sgn (s != s') (val 4294967296 o5) = x * y from (by rw [hov5, val_pi, val_pi]; exact mul_sign HSX.out HSY.out)); have hn5 : n5 ≤ 1000000 := (by omega); have HBK5 := Lib.hid hblk5; have HOL5 := Lib.hid hol5; have HOD5 := Lib.hid hod5; clear hov5 hon5 hol5 hblk5 hod5) | (go_at_call 49; refine (signed_any (s != s') o5 _ n5 n5 _ HOD5.out (HBK5.out.li0 HOL5.out (Nat.le_refl _)).weak hn5).mono ?_; rw [HVV.out]; rintro e w6 ⟨neg6, A6, n6, c6, rfl, hr6, hb6⟩; have hA6 := Lib.hid (hA5.out.new hb6); have hB6 := Lib.hid (hB5.out.new hb6); have hZ6 := Lib.hid (hZ5.out.new hb6); have hS6 := cells4 hA6.out hB6.out; have HR6 := Lib.hid hr6; clear hr6) | (go_at_call 48; refine (inRange_any _ neg6 A6 n6 c6 _ HR6.out (len_of HR6.out HVV.out HOD5.out HOL5.out hn5)).mono ?_; rintro e w7 ⟨neg7, A7, n7, c7, rfl, hr7, hb7⟩; have hA7 := Lib.hid (hA6.out.new hb7); have hB7 := Lib.hid (hB6.out.new hb7); have hZ7 := Lib.hid (hZ6.out.new hb7); have hS7 := cells4 hA7.out hB7.out; have hc70 := hZ7.out.cells.1; have hc71 := hZ7.out.cells.2; have hf70 := hZ7.out.frozen 0; have hf71 := hZ7.out.frozen 1; have HR7 := Lib.hid hr7; clear hr7))
  have HBB := Lib.hid (((HK.out.trans (hb5.mono HK.out.size)).trans (hb6.mono (HK.out.trans (hb5.mono HK.out.size)).size)).trans (hb7.mono ((HK.out.trans (hb5.mono HK.out.size)).trans (hb6.mono (HK.out.trans (hb5.mono HK.out.size)).size)).size))
  clear hb5 hb6 hb7 hS5 hS6 hS7
  go_wp2
  exact bodyPost_ret (results_cell1 rfl _ _ _ _ _ _ _ rfl (hZ7.out.all (.bool neg7) (.slice A7 n7 c7)) Try.underlying33 rfl W_size) rfl (RetPE.stored HR7.out hZ7.out rfl rfl HBB.out (by omega) _ _)
set_option maxRecDepth 100000 in
set_option maxHeartbeats 1600000 in
theorem padd_same (x y : Int) (s : Bool) (A A' : Option Addr) (n c n' c' : Nat) (w : World) (hx : PI w s A n c x) (hy : PI w s A' n' c' y) (hn : n ≤ 300000) (hn' : n' ≤ 300000) :
    Calls Try.prog 37 #[.agg #[.bool s, .slice A n c], .agg #[.bool s, .slice A' n' c']] w (RetPE (outV (x + y)) (outC (x + y)) w) := by
  have HSX := Lib.hid hx.1
  have HSY := Lib.hid hy.1
  have HNX := Lib.hid hx.2.1
  have HNY := Lib.hid hy.2.1
  have HLX := Lib.hid hx.2.2
  have HLY := Lib.hid hy.2.2
  clear hx hy
  have HK := Lib.hid (show Below w.heap.size w (W3 33 w (.bool s) (.slice A n c) (.bool s) (.slice A' n' c') (.bool false) (.slice none 0 0)).drew from (W3_k 33 w (.bool s) (.slice A n c) (.bool s) (.slice A' n' c') (.bool false) (.slice none 0 0)).drew)
  have HA := Lib.hid (show P2 33 (W3 33 w (.bool s) (.slice A n c) (.bool s) (.slice A' n' c') (.bool false) (.slice none 0 0)).drew w.heap.size (.bool s) (.slice A n c) from (W3_a 33 w (.bool s) (.slice A n c) (.bool s) (.slice A' n' c') (.bool false) (.slice none 0 0)))
  have HB := Lib.hid (show P2 33 (W3 33 w (.bool s) (.slice A n c) (.bool s) (.slice A' n' c') (.bool false) (.slice none 0 0)).drew (w.heap.size + 1) (.bool s) (.slice A' n' c') from (W3_b 33 w (.bool s) (.slice A n c) (.bool s) (.slice A' n' c') (.bool false) (.slice none 0 0)))
  have HZ := Lib.hid (show P2 33 (W3 33 w (.bool s) (.slice A n c) (.bool s) (.slice A' n' c') (.bool false) (.slice none 0 0)).drew (w.heap.size + 1 + 1) (.bool false) (.slice none 0 0) from (W3_z 33 w (.bool s) (.slice A n c) (.bool s) (.slice A' n' c') (.bool false) (.slice none 0 0)))
  go_enter Try.func37, Try.ntmps37
  go_wp2_with fail
  go_region_held3 (fun w' => w'.cell? ⟨w.heap.size, 0, none⟩ = some (.bool s) ∧ w'.cell? ⟨w.heap.size, 1, none⟩ = some (.slice A n c) ∧ w'.cell? ⟨w.heap.size + 1, 0, none⟩ = some (.bool s) ∧ w'.cell? ⟨w.heap.size + 1, 1, none⟩ = some (.slice A' n' c')) (first | assumption | exact cells4 HA.out HB.out | exact cells4 (hA7.out.far2 (by omega) _ _) (hB7.out.far2 (by omega) _ _) | go_keep)
    (first | (go_at_call 61; refine (sum_any _ _ A A' n n' c c' _ (dig_digs (by decide) x.natAbs) (dig_digs (by decide) y.natAbs) (HLX.out.new HK.out) (HLY.out.new HK.out) (by omega) (by omega)).mono ?_; rintro e w5 ⟨G5, n5, o5, rfl, hg5, hblk5, hol5, hod5, ⟨hov5, hon5⟩, hb5⟩; have hA5 := Lib.hid (HA.out.new hb5); have hB5 := Lib.hid (HB.out.new hb5); have hZ5 := Lib.hid (HZ.out.new hb5); have hS5 := cells4 hA5.out hB5.out; have HVV := Lib.hid (show sgn s (val 4294967296 o5) = x + y from (by rw [hov5, val_pi, val_pi]; exact add_same HSX.out HSY.out)); have hn5 : n5 ≤ 1000000 := (by omega); have HBK5 := Lib.hid hblk5; have HOL5 := Lib.hid hol5; have HOD5 := Lib.hid hod5; clear hov5 hon5 hol5 hblk5 hod5) | (go_at_call 49; refine (signed_any s o5 _ n5 n5 _ HOD5.out (HBK5.out.li0 HOL5.out (Nat.le_refl _)).weak hn5).mono ?_; rw [HVV.out]; rintro e w6 ⟨neg6, A6, n6, c6, rfl, hr6, hb6⟩; have hA6 := Lib.hid (hA5.out.new hb6); have hB6 := Lib.hid (hB5.out.new hb6); have hZ6 := Lib.hid (hZ5.out.new hb6); have hS6 := cells4 hA6.out hB6.out; have HR6 := Lib.hid hr6; clear hr6) | (go_at_call 48; refine (inRange_any _ neg6 A6 n6 c6 _ HR6.out (len_of HR6.out HVV.out HOD5.out HOL5.out hn5)).mono ?_; rintro e w7 ⟨neg7, A7, n7, c7, rfl, hr7, hb7⟩; have hA7 := Lib.hid (hA6.out.new hb7); have hB7 := Lib.hid (hB6.out.new hb7); have hZ7 := Lib.hid (hZ6.out.new hb7); have hS7 := cells4 hA7.out hB7.out; have hc70 := hZ7.out.cells.1; have hc71 := hZ7.out.cells.2; have hf70 := hZ7.out.frozen 0; have hf71 := hZ7.out.frozen 1; have HR7 := Lib.hid hr7; clear hr7))
  have HBB := Lib.hid (((HK.out.trans (hb5.mono HK.out.size)).trans (hb6.mono (HK.out.trans (hb5.mono HK.out.size)).size)).trans (hb7.mono ((HK.out.trans (hb5.mono HK.out.size)).trans (hb6.mono (HK.out.trans (hb5.mono HK.out.size)).size)).size))
  clear hb5 hb6 hb7 hS5 hS6 hS7
  go_wp2
  exact bodyPost_ret (results_cell1 rfl _ _ _ _ _ _ _ rfl (hZ7.out.all (.bool neg7) (.slice A7 n7 c7)) Try.underlying33 rfl W_size) rfl (RetPE.stored HR7.out hZ7.out rfl rfl HBB.out (by omega) _ _)
set_option maxRecDepth 100000 in
set_option maxHeartbeats 1600000 in
theorem padd_lt (x y : Int) (s s' : Bool) (A A' : Option Addr) (n c n' c' : Nat) (w : World) (hx : PI w s A n c x) (hy : PI w s' A' n' c' y) (hn : n ≤ 300000) (hn' : n' ≤ 300000) (_hfx : x.natAbs < lim) (_hfy : y.natAbs < lim) (hne : s ≠ s') (hlt : x.natAbs < y.natAbs) :
    Calls Try.prog 37 #[.agg #[.bool s, .slice A n c], .agg #[.bool s', .slice A' n' c']] w (RetPE (outV (x + y)) (outC (x + y)) w) := by
  have HSX := Lib.hid hx.1
  have HSY := Lib.hid hy.1
  have HNX := Lib.hid hx.2.1
  have HNY := Lib.hid hy.2.1
  have HLX := Lib.hid hx.2.2
  have HLY := Lib.hid hy.2.2
  clear hx hy
  have HK := Lib.hid (show Below w.heap.size w (W3 33 w (.bool s) (.slice A n c) (.bool s') (.slice A' n' c') (.bool false) (.slice none 0 0)) from (W3_k 33 w (.bool s) (.slice A n c) (.bool s') (.slice A' n' c') (.bool false) (.slice none 0 0)))
  have HA := Lib.hid (show P2 33 (W3 33 w (.bool s) (.slice A n c) (.bool s') (.slice A' n' c') (.bool false) (.slice none 0 0)) w.heap.size (.bool s) (.slice A n c) from (W3_a 33 w (.bool s) (.slice A n c) (.bool s') (.slice A' n' c') (.bool false) (.slice none 0 0)))
  have HB := Lib.hid (show P2 33 (W3 33 w (.bool s) (.slice A n c) (.bool s') (.slice A' n' c') (.bool false) (.slice none 0 0)) (w.heap.size + 1) (.bool s') (.slice A' n' c') from (W3_b 33 w (.bool s) (.slice A n c) (.bool s') (.slice A' n' c') (.bool false) (.slice none 0 0)))
  have HZ := Lib.hid (show P2 33 (W3 33 w (.bool s) (.slice A n c) (.bool s') (.slice A' n' c') (.bool false) (.slice none 0 0)) (w.heap.size + 1 + 1) (.bool false) (.slice none 0 0) from (W3_z 33 w (.bool s) (.slice A n c) (.bool s') (.slice A' n' c') (.bool false) (.slice none 0 0)))
  have hsb : (s == s') = false := beq_eq_false_iff_ne.2 hne
  obtain ⟨v, hv⟩ : ∃ v, cmpN x.natAbs y.natAbs = v := ⟨_, rfl⟩
  have hv0 : v < 0 := by rw [← hv, cmpN_lt hlt]; decide
  have HV := Lib.hid hv
  have HSUM := Lib.hid (add_lt HSX.out HSY.out hne (Nat.le_of_lt hlt))
  have HLIM := Lib.hid (in_lim (x := x + y) (by
    rw [← HSUM.out, sgn_abs]
    omega))
  clear hv
  go_enter Try.func37, Try.ntmps37
  go_wp2_with fail
  refine (compareWords_any x.natAbs y.natAbs A A' n n' c c' (W3 33 w (.bool s) (.slice A n c) (.bool s') (.slice A' n' c') (.bool false) (.slice none 0 0)) (HLX.out.new HK.out) (HLY.out.new HK.out) (by omega) (by omega)).mono ?_
  rintro e w4 ⟨rfl, hb4⟩
  rw [HV.out]
  have HK4 := Lib.hid (show Below w.heap.size w w4.drew from (HK.out.trans (hb4.mono HK.out.size)).drew)
  have HA4 := Lib.hid (show P2 33 w4.drew w.heap.size (.bool s) (.slice A n c) from HA.out.new hb4.drew)
  have HB4 := Lib.hid (show P2 33 w4.drew (w.heap.size + 1) (.bool s') (.slice A' n' c') from HB.out.new hb4.drew)
  have HZ4 := Lib.hid (show P2 33 w4.drew (w.heap.size + 1 + 1) (.bool false) (.slice none 0 0) from HZ.out.new hb4.drew)
  clear hb4
  go_wp2_with fail
  go_region_held3 (fun w' => w'.cell? ⟨w.heap.size, 0, none⟩ = some (.bool s) ∧ w'.cell? ⟨w.heap.size, 1, none⟩ = some (.slice A n c) ∧ w'.cell? ⟨w.heap.size + 1, 0, none⟩ = some (.bool s') ∧ w'.cell? ⟨w.heap.size + 1, 1, none⟩ = some (.slice A' n' c')) (first | assumption | exact cells4 HA4.out HB4.out | exact cells4 (hA6.out.far2 (by omega) _ _) (hB6.out.far2 (by omega) _ _) | go_keep)
    (first | (go_at_call 62; refine (difference_any _ _ A' A n' n c' c _ (dig_digs (by decide) y.natAbs) (dig_digs (by decide) x.natAbs) (HLY.out.new HK4.out) (HLX.out.new HK4.out) (by omega) (by omega) (by rw [val_pi, val_pi]; omega)).mono ?_; rintro e w5 ⟨G5, n5, o5, rfl, hg5, hblk5, hol5, hod5, ⟨hov5, hon5⟩, hb5⟩; have hA5 := Lib.hid (HA4.out.new hb5); have hB5 := Lib.hid (HB4.out.new hb5); have hZ5 := Lib.hid (HZ4.out.new hb5); have hS5 := cells4 hA5.out hB5.out; have HVV := Lib.hid (show sgn s' (val 4294967296 o5) = x + y from (by rw [hov5, val_pi, val_pi]; exact HSUM.out)); have hn5 : n5 ≤ 1000000 := (by omega); have HBK5 := Lib.hid hblk5; have HOL5 := Lib.hid hol5; have HOD5 := Lib.hid hod5; clear hov5 hon5 hol5 hblk5 hod5) | (go_at_call 49; refine (signed_any s' o5 _ n5 n5 _ HOD5.out (HBK5.out.li0 HOL5.out (Nat.le_refl _)).weak hn5).mono ?_; rw [HVV.out]; rintro e w6 ⟨neg6, A6, n6, c6, rfl, hr6, hb6⟩; have hA6 := Lib.hid (hA5.out.new hb6); have hB6 := Lib.hid (hB5.out.new hb6); have hZ6 := Lib.hid (hZ5.out.new hb6); have hS6 := cells4 hA6.out hB6.out; have HR6 := Lib.hid hr6; clear hr6; have hc60 := hZ6.out.cells.1; have hc61 := hZ6.out.cells.2; have hf60 := hZ6.out.frozen 0; have hf61 := hZ6.out.frozen 1))
  have HBB := Lib.hid ((HK4.out.trans (hb5.mono HK4.out.size)).trans (hb6.mono (HK4.out.trans (hb5.mono HK4.out.size)).size))
  clear hb5 hb6 hS5 hS6
  go_wp2
  rw [HLIM.out.1, HLIM.out.2]
  exact bodyPost_ret (results_cell1 rfl _ _ _ _ _ _ _ rfl (hZ6.out.all (.bool neg6) (.slice A6 n6 c6)) Try.underlying33 rfl W_size) rfl (RetPE.stored HR6.out hZ6.out rfl rfl HBB.out (by omega) _ _)
set_option maxRecDepth 100000 in
set_option maxHeartbeats 1600000 in
theorem padd_ge (x y : Int) (s s' : Bool) (A A' : Option Addr) (n c n' c' : Nat) (w : World) (hx : PI w s A n c x) (hy : PI w s' A' n' c' y) (hn : n ≤ 300000) (hn' : n' ≤ 300000) (_hfx : x.natAbs < lim) (_hfy : y.natAbs < lim) (hne : s ≠ s') (hge : y.natAbs ≤ x.natAbs) :
    Calls Try.prog 37 #[.agg #[.bool s, .slice A n c], .agg #[.bool s', .slice A' n' c']] w (RetPE (outV (x + y)) (outC (x + y)) w) := by
  have HSX := Lib.hid hx.1
  have HSY := Lib.hid hy.1
  have HNX := Lib.hid hx.2.1
  have HNY := Lib.hid hy.2.1
  have HLX := Lib.hid hx.2.2
  have HLY := Lib.hid hy.2.2
  clear hx hy
  have HK := Lib.hid (show Below w.heap.size w (W3 33 w (.bool s) (.slice A n c) (.bool s') (.slice A' n' c') (.bool false) (.slice none 0 0)) from (W3_k 33 w (.bool s) (.slice A n c) (.bool s') (.slice A' n' c') (.bool false) (.slice none 0 0)))
  have HA := Lib.hid (show P2 33 (W3 33 w (.bool s) (.slice A n c) (.bool s') (.slice A' n' c') (.bool false) (.slice none 0 0)) w.heap.size (.bool s) (.slice A n c) from (W3_a 33 w (.bool s) (.slice A n c) (.bool s') (.slice A' n' c') (.bool false) (.slice none 0 0)))
  have HB := Lib.hid (show P2 33 (W3 33 w (.bool s) (.slice A n c) (.bool s') (.slice A' n' c') (.bool false) (.slice none 0 0)) (w.heap.size + 1) (.bool s') (.slice A' n' c') from (W3_b 33 w (.bool s) (.slice A n c) (.bool s') (.slice A' n' c') (.bool false) (.slice none 0 0)))
  have HZ := Lib.hid (show P2 33 (W3 33 w (.bool s) (.slice A n c) (.bool s') (.slice A' n' c') (.bool false) (.slice none 0 0)) (w.heap.size + 1 + 1) (.bool false) (.slice none 0 0) from (W3_z 33 w (.bool s) (.slice A n c) (.bool s') (.slice A' n' c') (.bool false) (.slice none 0 0)))
  have hsb : (s == s') = false := beq_eq_false_iff_ne.2 hne
  obtain ⟨v, hv⟩ : ∃ v, cmpN x.natAbs y.natAbs = v := ⟨_, rfl⟩
  have hv0 : ¬ v < 0 := by rw [← hv, cmpN, if_neg (by omega)]; split <;> decide
  have HV := Lib.hid hv
  have HSUM := Lib.hid (add_gt HSX.out HSY.out hne hge)
  have HLIM := Lib.hid (in_lim (x := x + y) (by
    rw [← HSUM.out, sgn_abs]
    omega))
  clear hv
  go_enter Try.func37, Try.ntmps37
  go_wp2_with fail
  refine (compareWords_any x.natAbs y.natAbs A A' n n' c c' (W3 33 w (.bool s) (.slice A n c) (.bool s') (.slice A' n' c') (.bool false) (.slice none 0 0)) (HLX.out.new HK.out) (HLY.out.new HK.out) (by omega) (by omega)).mono ?_
  rintro e w4 ⟨rfl, hb4⟩
  rw [HV.out]
  have HK4 := Lib.hid (show Below w.heap.size w w4.drew from (HK.out.trans (hb4.mono HK.out.size)).drew)
  have HA4 := Lib.hid (show P2 33 w4.drew w.heap.size (.bool s) (.slice A n c) from HA.out.new hb4.drew)
  have HB4 := Lib.hid (show P2 33 w4.drew (w.heap.size + 1) (.bool s') (.slice A' n' c') from HB.out.new hb4.drew)
  have HZ4 := Lib.hid (show P2 33 w4.drew (w.heap.size + 1 + 1) (.bool false) (.slice none 0 0) from HZ.out.new hb4.drew)
  clear hb4
  go_wp2_with fail
  go_region_held3 (fun w' => w'.cell? ⟨w.heap.size, 0, none⟩ = some (.bool s) ∧ w'.cell? ⟨w.heap.size, 1, none⟩ = some (.slice A n c) ∧ w'.cell? ⟨w.heap.size + 1, 0, none⟩ = some (.bool s') ∧ w'.cell? ⟨w.heap.size + 1, 1, none⟩ = some (.slice A' n' c')) (first | assumption | exact cells4 HA4.out HB4.out | exact cells4 (hA6.out.far2 (by omega) _ _) (hB6.out.far2 (by omega) _ _) | go_keep)
    (first | (go_at_call 62; refine (difference_any _ _ A A' n n' c c' _ (dig_digs (by decide) x.natAbs) (dig_digs (by decide) y.natAbs) (HLX.out.new HK4.out) (HLY.out.new HK4.out) (by omega) (by omega) (by rw [val_pi, val_pi]; omega)).mono ?_; rintro e w5 ⟨G5, n5, o5, rfl, hg5, hblk5, hol5, hod5, ⟨hov5, hon5⟩, hb5⟩; have hA5 := Lib.hid (HA4.out.new hb5); have hB5 := Lib.hid (HB4.out.new hb5); have hZ5 := Lib.hid (HZ4.out.new hb5); have hS5 := cells4 hA5.out hB5.out; have HVV := Lib.hid (show sgn s (val 4294967296 o5) = x + y from (by rw [hov5, val_pi, val_pi]; exact HSUM.out)); have hn5 : n5 ≤ 1000000 := (by omega); have HBK5 := Lib.hid hblk5; have HOL5 := Lib.hid hol5; have HOD5 := Lib.hid hod5; clear hov5 hon5 hol5 hblk5 hod5) | (go_at_call 49; refine (signed_any s o5 _ n5 n5 _ HOD5.out (HBK5.out.li0 HOL5.out (Nat.le_refl _)).weak hn5).mono ?_; rw [HVV.out]; rintro e w6 ⟨neg6, A6, n6, c6, rfl, hr6, hb6⟩; have hA6 := Lib.hid (hA5.out.new hb6); have hB6 := Lib.hid (hB5.out.new hb6); have hZ6 := Lib.hid (hZ5.out.new hb6); have hS6 := cells4 hA6.out hB6.out; have HR6 := Lib.hid hr6; clear hr6; have hc60 := hZ6.out.cells.1; have hc61 := hZ6.out.cells.2; have hf60 := hZ6.out.frozen 0; have hf61 := hZ6.out.frozen 1))
  have HBB := Lib.hid ((HK4.out.trans (hb5.mono HK4.out.size)).trans (hb6.mono (HK4.out.trans (hb5.mono HK4.out.size)).size))
  clear hb5 hb6 hS5 hS6
  go_wp2
  rw [HLIM.out.1, HLIM.out.2]
  exact bodyPost_ret (results_cell1 rfl _ _ _ _ _ _ _ rfl (hZ6.out.all (.bool neg6) (.slice A6 n6 c6)) Try.underlying33 rfl W_size) rfl (RetPE.stored HR6.out hZ6.out rfl rfl HBB.out (by omega) _ _)
theorem padd_any (x y : Int) (s s' : Bool) (A A' : Option Addr) (n c n' c' : Nat) (w : World) (hx : PI w s A n c x) (hy : PI w s' A' n' c' y) (hn : n ≤ 300000) (hn' : n' ≤ 300000) (hfx : x.natAbs < lim) (hfy : y.natAbs < lim) :
    Calls Try.prog 37 #[.agg #[.bool s, .slice A n c], .agg #[.bool s', .slice A' n' c']] w (RetPE (outV (x + y)) (outC (x + y)) w) := by
  by_cases h : s = s'
  · subst h
    exact padd_same x y s A A' n c n' c' w hx hy hn hn'
  · rcases Nat.lt_or_ge x.natAbs y.natAbs with h1 | h1
    · exact padd_lt x y s s' A A' n c n' c' w hx hy hn hn' hfx hfy h h1
    · exact padd_ge x y s s' A A' n c n' c' w hx hy hn hn' hfx hfy h h1
end Go.Proofs.Ytpcliampffeknaa
