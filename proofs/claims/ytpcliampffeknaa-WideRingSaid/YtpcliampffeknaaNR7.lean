/- The contract of the reference's Mul. -/
import Derived.Test.YtpcliampffeknaaNR6
import Derived.Test.YtpcliampffeknaaMMul
import Derived.IntWalk
namespace Go.Proofs.Ytpcliampffeknaa
open Go.RowKit
attribute [local go_sem ↓] Go.wp_at_zero Go.wp_at_succ

theorem mul_sign {x y : Int} {s s' : Bool} (hx : s = decide (x < 0)) (hy : s' = decide (y < 0)) : sgn (s != s') (x.natAbs * y.natAbs) = x * y := by
  subst hx hy
  have e := Int.natAbs_mul x y
  rw [← e]
  unfold sgn
  by_cases h1 : x < 0 <;> by_cases h2 : y < 0
  · have := Int.mul_pos_of_neg_of_neg h1 h2
    simp [h1, h2]; omega
  · have := Int.mul_nonpos_of_nonpos_of_nonneg (show x ≤ 0 by omega) (show 0 ≤ y by omega)
    simp [h1, h2]; omega
  · have := Int.mul_nonpos_of_nonneg_of_nonpos (show 0 ≤ x by omega) (show y ≤ 0 by omega)
    simp [h1, h2]; omega
  · have := Int.mul_nonneg (show 0 ≤ x by omega) (show 0 ≤ y by omega)
    simp [h1, h2]; omega
theorem sq_bd {X Y : Int} (h1 : 0 ≤ X) (h2 : X < 10000) (h3 : 0 ≤ Y) (h4 : Y < 10000) : 0 ≤ X * Y ∧ X * Y ≤ 99980001 := by
  refine ⟨Int.mul_nonneg h1 h3, ?_⟩
  have := Int.mul_le_mul (show X ≤ 9999 by omega) (show Y ≤ 9999 by omega) h3 (by decide)
  omega
theorem dg_nat {B : Nat} {o : List Nat} (h : Dig B o) (hB : 0 < B) (i : Nat) : o.getD i 0 < B := dig_getD hB h i

set_option maxRecDepth 100000 in
set_option maxHeartbeats 3200000 in
theorem mul_any (x y : Int) (s s' : Bool) (A A' : Option Addr) (n c n' c' : Nat) (w : World) (hx : RN w s A n c x) (hy : RN w s' A' n' c' y) (hn : n ≤ 400000) (hn' : n' ≤ 400000) :
    Calls Try.prog 26 #[.agg #[.bool s, .slice A n c], .agg #[.bool s', .slice A' n' c']] w (RetN (x * y) w) := by
  obtain ⟨i0, hi0, hz0, hz1, hz2⟩ := info_parts int_info
  have HSX := Lib.hid hx.1
  have HSY := Lib.hid hy.1
  have HNX := Lib.hid hx.2.1
  have HNY := Lib.hid hy.2.1
  have HLX := Lib.hid hx.2.2
  have HLY := Lib.hid hy.2.2
  clear hx hy
  have HDX := Lib.hid (dig_digs (B := 10000) (by decide) x.natAbs)
  have HDY := Lib.hid (dig_digs (B := 10000) (by decide) y.natAbs)
  have HVX := Lib.hid (val_rn x)
  have HVY := Lib.hid (val_rn y)
  generalize digs 10000 x.natAbs = la at HNX HLX HDX HVX
  generalize digs 10000 y.natAbs = lb at HNY HLY HDY HVY
  obtain ⟨W, hW⟩ : ∃ W, ((w.alloc (.cells #[.bool s, .slice A n c] 25)).alloc (.cells #[.bool s', .slice A' n' c'] 25)).alloc (.cells #[.bool false, .slice none 0 0] 25) = W := ⟨_, rfl⟩
  have HK := Lib.hid (show Below w.heap.size w W by rw [← hW]; exact W3_k _ _ _ _ _ _ _ _)
  have HA := Lib.hid (show P2 25 W w.heap.size (.bool s) (.slice A n c) by rw [← hW]; exact W3_a _ _ _ _ _ _ _ _)
  have HB := Lib.hid (show P2 25 W (w.heap.size + 1) (.bool s') (.slice A' n' c') by rw [← hW]; exact W3_b _ _ _ _ _ _ _ _)
  have HZ := Lib.hid (show P2 25 W (w.heap.size + 1 + 1) (.bool false) (.slice none 0 0) by rw [← hW]; exact W3_z _ _ _ _ _ _ _ _)
  have HWS := Lib.hid (show w.heap.size + 1 + 1 < W.heap.size from HZ.out.lt)
  obtain ⟨hca0, hca1⟩ := HA.out.cells
  obtain ⟨hcb0, hcb1⟩ := HB.out.cells
  obtain ⟨m, hm⟩ : ∃ m, n + n' = m := ⟨_, rfl⟩
  have hm1 : ((n : Int) + (n' : Int)) = (m : Int) := by omega
  have hm2 : m ≤ 800000 := by omega
  have HM := Lib.hid hm
  have HM1 := Lib.hid hm1
  clear hm hm1
  go_enter Try.func26, Try.ntmps26
  go_wp2_with (at_make; refine wpList_make_blk _ rfl _ _ 22 rfl 3 i0 .i64 8 Try.underlying22 hi0 hz0 hz1 hz2 m _ rfl rfl HM1.out (by decide) (by omega) ?_; intro w2 hblk hb2)
  obtain ⟨G, hG⟩ : ∃ G, W.heap.size = G := ⟨_, rfl⟩
  rw [hG] at hblk hb2 ⊢
  have HGG := Lib.hid hG
  have HBLK := Lib.hid hblk
  have HB2 := Lib.hid hb2
  have HLA := Lib.hid (HLX.out.new HK.out)
  have HLB := Lib.hid (HLY.out.new HK.out)
  clear hG hblk hb2
  go_loopw [6] (fun i wr => ∃ (j : Nat) (o : List Nat), j ≤ n ∧ i = .int .i64 j ∧ MulInv 10000 la lb j o ∧ Blk .i64 wr G 3 o ∧ Below G W wr) (fun i _ => n - (intOf i).toNat)
  case atStart => exact ⟨0, _, Nat.zero_le _, rfl, MulInv.start (by decide) la lb, by rw [HNX.out, HNY.out, HM.out]; exact HBLK.out, HB2.out⟩
  case round =>
    obtain ⟨j, o, hj, rfl, hmi, hblk, hbel⟩ := hrel
    have HMI := Lib.hid hmi
    have HBK := Lib.hid hblk
    have HBB := Lib.hid hbel
    obtain ⟨c1, c2⟩ := (HA.out.kp (Kp.of_below hbel (t := (G ≤ ·)) (fun _ _ h => h)) (by have := HWS.out; have := HGG.out; omega)).cells
    obtain ⟨c3, c4⟩ := (HB.out.kp (Kp.of_below hbel (t := (G ≤ ·)) (fun _ _ h => h)) (by have := HWS.out; have := HGG.out; omega)).cells
    clear hmi hblk hbel hca0 hca1 hcb0 hcb1
    by_cases hlt : j < n
    · have HJL := Lib.hid (show j < la.length by have := HNX.out; omega)
      have HRI := Lib.hid (HMI.out.row (by decide))
      obtain ⟨wo, hwo⟩ : ∃ wo : World, wo = wr := ⟨_, rfl⟩
      rw [← hwo] at HBK HBB c1 c2 c3 c4 ⊢
      clear hwo HMI
      go_wp2
      go_loopw [7, 8] (fun y i wr => ∃ (k q : Nat) (o : List Nat), k ≤ n' ∧ y = .int .i64 q ∧ i = .int .i64 k ∧ RowInv 10000 la lb j k q o ∧ Blk .i64 wr G 3 o ∧ Below G W wr) (fun _ i _ => n' - (intOf i).toNat)
      case atStart => exact ⟨0, 0, o, Nat.zero_le _, rfl, rfl, HRI.out, HBK.out, HBB.out⟩
      case round =>
        clear HRI HBK HBB c1 c2 c3 c4 o
        obtain ⟨k, q, o, hk, rfl, rfl, hri, hblk, hbel⟩ := hrel
        have HRI := Lib.hid hri
        have HBK := Lib.hid hblk
        have HBB := Lib.hid hbel
        obtain ⟨c1, c2⟩ := (HA.out.kp (Kp.of_below hbel (t := (G ≤ ·)) (fun _ _ h => h)) (by have := HWS.out; have := HGG.out; omega)).cells
        obtain ⟨c3, c4⟩ := (HB.out.kp (Kp.of_below hbel (t := (G ≤ ·)) (fun _ _ h => h)) (by have := HWS.out; have := HGG.out; omega)).cells
        have hfr := fun i => hblk.frozen i
        have hol := hri.len
        have HOL := Lib.hid (show o.length = m by rw [hol, HNX.out, HNY.out]; exact HM.out)
        have hq := hri.carry
        clear hri hblk hbel hol
        obtain ⟨C, hC⟩ : ∃ C : Int, (q : Int) = C := ⟨_, rfl⟩
        rw [hC]
        have HC := Lib.hid hC
        have hC1 : 0 ≤ C := by omega
        have hC2 : C < 10000 := by omega
        clear hC hq
        by_cases hkl : k < n'
        · have HKL := Lib.hid (show k < lb.length by have := HNY.out; omega)
          have HST := Lib.hid (HRI.out.step (by decide) HDX.out HDY.out HJL.out HKL.out)
          have hbG := HBB.out
          rw [← HGG.out] at hbG
          obtain ⟨b1, o1, rfl, hb1, hx1⟩ := (HLA.out.new hbG).at_ hlt
          obtain ⟨b2, o2, rfl, hb2', hx2⟩ := (HLB.out.new hbG).at_ hkl
          have hx3 := HBK.out.cell (i := j + k) (by have := HOL.out; have := HM.out; omega)
          have hf3 := HBK.out.frozen (j + k)
          have d1 := dig_getD (B := 10000) (by decide) HDX.out j
          have d2 := dig_getD (B := 10000) (by decide) HDY.out k
          have d3 := dig_getD (B := 10000) (by decide) HRI.out.dig (j + k)
          have HSB := Lib.hid (fun v => HBK.out.set_ (j + k) v)
          clear hbG hfr
          generalize la.getD j 0 = x0 at hx1 d1 HST
          generalize lb.getD k 0 = y0 at hx2 d2 HST
          generalize o.getD (j + k) 0 = z0 at hx3 d3 HST
          obtain ⟨X, hX⟩ : ∃ X : Int, (x0 : Int) = X := ⟨_, rfl⟩
          obtain ⟨Y, hY⟩ : ∃ X : Int, (y0 : Int) = X := ⟨_, rfl⟩
          obtain ⟨Z, hZ⟩ : ∃ X : Int, (z0 : Int) = X := ⟨_, rfl⟩
          rw [hX] at hx1
          rw [hY] at hx2
          rw [hZ] at hx3
          have HX := Lib.hid hX
          have HY := Lib.hid hY
          have HZ0 := Lib.hid hZ
          have hX1 : 0 ≤ X := by omega
          have hX2 : X < 10000 := by omega
          have hY1 : 0 ≤ Y := by omega
          have hY2 : Y < 10000 := by omega
          have hZ1 : 0 ≤ Z := by omega
          have hZ2 : Z < 10000 := by omega
          clear hX hY hZ d1 d2 d3
          obtain ⟨hs1, hs2⟩ := sq_bd hX1 hX2 hY1 hY2
          have hj0 : (0 : Int) ≤ (j : Int) := by omega
          have hk0 : (0 : Int) ≤ (k : Int) := by omega
          have hjn : (j : Int) < (n : Int) := by omega
          have hkn : (k : Int) < (n' : Int) := by omega
          have hjk0 : (0 : Int) ≤ (j : Int) + (k : Int) := by omega
          have hjk1 : (j : Int) + (k : Int) < (m : Int) := by have := HM.out; omega
          have e1 : IntKind.i64.wrap ((j : Int) + (k : Int)) = (j : Int) + (k : Int) := IntWalk.i64_in _ (by omega)
          have e2 : IntKind.i64.wrap (X * Y) = X * Y := IntWalk.i64_in _ (by omega)
          have e3 : IntKind.i64.wrap (Z + X * Y) = Z + X * Y := IntWalk.i64_in _ (by omega)
          have e4 : IntKind.i64.wrap (Z + X * Y + C) = Z + X * Y + C := IntWalk.i64_in _ (by omega)
          have e5 : ((j : Int) + (k : Int)).toNat = j + k := by omega
          go_wp2
          go_quiet (fail)
          clear e1 e2 e3 e4
          have hV1 : 0 ≤ Z + X * Y + C := by omega
          have hV2 : Z + X * Y + C ≤ 100000000 := by omega
          generalize hV : Z + X * Y + C = V at hV1 hV2 ⊢
          have HV := Lib.hid (show V = ((z0 + x0 * y0 + q : Nat) : Int) by
            rw [← hV, ← HX.out, ← HY.out, ← HZ0.out, ← HC.out, Int.natCast_add, Int.natCast_add, Int.natCast_mul])
          clear hV
          go_wp2
          go_roundw
          case rel =>
            have hm := HV.out
            refine ⟨k + 1, (z0 + x0 * y0 + q) / 10000, o.set (j + k) ((z0 + x0 * y0 + q) % 10000), by omega, congrArg _ (by omega), by go_num, HST.out, ?_, ?_⟩
            · have := HSB.out ((z0 + x0 * y0 + q) % 10000)
              rw [show (((z0 + x0 * y0 + q) % 10000 : Nat) : Int) = V % 10000 by omega] at this
              exact this
            · exact (drawn HBB.out _).setCell (p := ⟨G, j + k, none⟩) (Nat.le_refl _) _
          case measure => simp [intOf]; omega
        · obtain rfl : k = n' := by omega
          have HLBL := Lib.hid (show lb.length = k from HNY.out)
          have HDN := Lib.hid (show MulInv 10000 la lb (j + 1) (o.set (j + k) q) by
            have := HRI.out
            rw [← HLBL.out] at this ⊢
            exact this.done HJL.out)
          have hx3 := HBK.out.cell (i := j + k) (by have := HOL.out; have := HM.out; omega)
          have hf3 := HBK.out.frozen (j + k)
          have HSB := Lib.hid (HBK.out.set_ (j + k) q)
          have e5 : ((j : Int) + (k : Int)).toNat = j + k := by omega
          have hjk1 : (j : Int) + (k : Int) < (m : Int) := by have := HM.out; omega
          clear hfr
          go_wp2
          go_roundw
          case rel =>
            refine ⟨j + 1, o.set (j + k) q, by omega, by go_num, HDN.out, ?_, HBB.out.setCell (p := ⟨G, j + k, none⟩) (Nat.le_refl _) _⟩
            have := HSB.out
            rw [HC.out] at this
            exact this
          case measure => simp [intOf]; omega
    · obtain rfl : j = n := by omega
      have HVO := Lib.hid (show val 10000 o = x.natAbs * y.natAbs by
        have h := HMI.out
        rw [← HNX.out] at h
        rw [h.all, HVX.out, HVY.out])
      have HB3 := Lib.hid (show Below W.heap.size W wr by rw [HGG.out]; exact HBB.out)
      go_wp2_with fail
      refine (normal_any (s != s') o (some ⟨G, 0, none⟩) m m wr HMI.out.dig (HBK.out.li0 (by rw [HMI.out.len, HNX.out, HNY.out]; exact HM.out) (Nat.le_refl _)).weak (by omega)).mono ?_
      rintro e w6 ⟨neg6, A6, n6, c6, rfl, hrn, hb6⟩
      have hp := (HZ.out.new HB3.out).new hb6
      obtain ⟨hc0, hc1⟩ := hp.cells
      have hf0 := hp.frozen 0
      have hf1 := hp.frozen 1
      have HPP := Lib.hid hp
      have HR := Lib.hid (hrn.eq (y := x * y) (by rw [HVO.out]; exact mul_sign HSX.out HSY.out))
      have HB4 := Lib.hid ((HK.out.trans (HB3.out.mono HK.out.size)).trans (hb6.mono (HK.out.trans (HB3.out.mono HK.out.size)).size))
      clear hp hrn hb6
      go_wp2
      exact bodyPost_ret (results_cell_row rfl _ _ _ _ _ _ _ rfl (HPP.out.all (.bool neg6) (.slice A6 n6 c6)) Try.underlying25 rfl N_size) rfl (RNo.stored HR.out HPP.out rfl rfl HB4.out (by omega) _ _)
end Go.Proofs.Ytpcliampffeknaa
