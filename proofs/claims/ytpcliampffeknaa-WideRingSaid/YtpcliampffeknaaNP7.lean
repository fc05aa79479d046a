/- Contracts of the program's words: a product. -/
import Derived.Test.YtpcliampffeknaaNP6
namespace Go.Proofs.Ytpcliampffeknaa
open Go.RowKit
attribute [local go_sem ↓] Go.wp_at_zero Go.wp_at_succ

theorem RowInv.step' {B : Nat} {la lb o : List Nat} {i k c : Nat} (hB : 0 < B) (ha : Dig B la) (hb : Dig B lb) (h : RowInv B la lb i k c o) (hi : i < la.length) (hk : k < lb.length) :
    RowInv B la lb i (k + 1) ((lb.getD k 0 * la.getD i 0 + o.getD (i + k) 0 + c) / B) (o.set (i + k) ((lb.getD k 0 * la.getD i 0 + o.getD (i + k) 0 + c) % B)) := by
  have := h.step hB ha hb hi hk
  rwa [show o.getD (i + k) 0 + la.getD i 0 * lb.getD k 0 + c = lb.getD k 0 * la.getD i 0 + o.getD (i + k) 0 + c by rw [Nat.mul_comm (la.getD i 0)]; omega] at this
set_option maxRecDepth 100000 in
set_option maxHeartbeats 3200000 in
theorem product_any (la lb : List Nat) (A A' : Option Addr) (n n' c c' : Nat) (w : World) (hda : Dig 4294967296 la) (hdb : Dig 4294967296 lb) (hx : LI .u32 w (.slice A n c) la) (hy : LI .u32 w (.slice A' n' c') lb) (hn : n ≤ 400000) (hn' : n' ≤ 400000) :
    Calls Try.prog 66 #[.slice A n c, .slice A' n' c'] w (RetB (fun o => val 4294967296 o = val 4294967296 la * val 4294967296 lb ∧ o.length = n + n') w) := by
  obtain ⟨i0, hi0, hz0, hz1, hz2⟩ := info_parts w32_info
  have HX := Lib.hid hx
  have HY := Lib.hid hy
  have HN := Lib.hid hx.len.1
  have HN' := Lib.hid hy.len.1
  have HDA := Lib.hid hda
  have HDB := Lib.hid hdb
  obtain ⟨m, hm⟩ : ∃ m, n + n' = m := ⟨_, rfl⟩
  have hm1 : (n : Int) + (n' : Int) = (m : Int) := by omega
  have hm2 : m ≤ 800000 := by omega
  have HM := Lib.hid hm
  have HM1 := Lib.hid hm1
  rw [hm]
  clear hx hy hda hdb hm hm1
  go_enter Try.func66, Try.ntmps66
  go_wp2_with (at_make; refine wpList_make_blk _ rfl _ _ 31 rfl 75 i0 .u32 4 Try.underlying31 hi0 hz0 hz1 hz2 m _ rfl rfl HM1.out (by decide) (by omega) ?_; intro w2 hblk hb2)
  obtain ⟨G, hG⟩ : ∃ G, w.heap.size = G := ⟨_, rfl⟩
  rw [hG] at hblk hb2 ⊢
  have HG := Lib.hid hG
  have HBLK := Lib.hid hblk
  have HB2 := Lib.hid hb2
  clear hG hblk hb2
  go_loopw [19] (fun i wr => ∃ (j : Nat) (o : List Nat), j ≤ n ∧ i = .int .i64 j ∧ MulInv 4294967296 la lb j o ∧ Blk .u32 wr G 75 o ∧ Below G w wr) (fun i _ => n - (intOf i).toNat)
  case atStart => exact ⟨0, _, Nat.zero_le _, rfl, MulInv.start (by decide) la lb, by rw [HN.out, HN'.out, HM.out]; exact HBLK.out, HB2.out⟩
  case round =>
    obtain ⟨j, o, hj, rfl, hmi, hblk, hbel⟩ := hrel
    have HMI := Lib.hid hmi
    have HBK := Lib.hid hblk
    have HBB := Lib.hid hbel
    have HBW := Lib.hid (show Below w.heap.size w wr by rw [HG.out]; exact hbel)
    clear hmi hblk hbel
    by_cases hlt : j < n
    · have HJL := Lib.hid (show j < la.length by have := HN.out; omega)
      have HRI := Lib.hid (HMI.out.row (by decide))
      obtain ⟨wo, hwo⟩ : ∃ wo : World, wo = wr := ⟨_, rfl⟩
      rw [← hwo] at HBK HBB HBW ⊢
      clear hwo HMI
      obtain ⟨b1, o1, rfl, hb1, hx1⟩ := (HX.out.new HBW.out).at_ hlt
      have d1 := dig_getD (B := 4294967296) (by decide) HDA.out j
      obtain ⟨f, hf⟩ : ∃ f, la.getD j 0 = f := ⟨_, rfl⟩
      rw [hf] at hx1 d1
      have HF := Lib.hid hf
      have HFL := Lib.hid d1
      clear hf d1
      go_wp2_with fail
      refine (multiplying_any (f : Int) wo).mono ?_
      rintro e w3 ⟨rfl, hw3⟩
      obtain ⟨C, hC⟩ : ∃ C, wo.heap.size = C := ⟨_, rfl⟩
      rw [hC]
      have HBF := Lib.hid (show Boxed w3 C 75 (.int .u32 (f : Int)) by rw [← hw3, ← hC]; exact (Boxed.new _ _ _).alloc _)
      have HBX := Lib.hid (show Boxed w3 (C + 1) 83 (.int .u64 ((0 : Nat) : Int)) by
        rw [← hw3, ← hC]
        have := Boxed.new (wo.alloc (.cells #[.int .u32 (f : Int)] 75)) 83 (.int .u64 0)
        rw [World.size_alloc] at this
        exact this)
      have HB3 := Lib.hid (show Blk .u32 w3 G 75 o by rw [← hw3]; exact (HBK.out.alloc _).alloc _)
      have HBL := Lib.hid (show Below G w w3 by rw [← hw3]; exact (HBB.out.alloc (Nat.le_of_lt HBK.out.lt) _).alloc (by have := HBK.out.lt; simp; omega) _)
      have HGC := Lib.hid (show G < C by rw [← hC]; exact HBK.out.lt)
      clear hw3 hC HBK HBB HBW hx1
      go_wp2
      go_loopw [28] (fun i wr => ∃ (k q : Nat) (o : List Nat), k ≤ n' ∧ i = .int .i64 k ∧ RowInv 4294967296 la lb j k q o ∧ Boxed wr C 75 (.int .u32 (f : Int)) ∧ Boxed wr (C + 1) 83 (.int .u64 (q : Int)) ∧ Blk .u32 wr G 75 o ∧ Below G w wr) (fun i _ => n' - (intOf i).toNat)
      case atStart => exact ⟨0, 0, o, Nat.zero_le _, rfl, HRI.out, HBF.out, HBX.out, HB3.out, HBL.out⟩
      case round =>
        clear HRI HBF HBX HB3 HBL o
        obtain ⟨k, q, o, hk, rfl, hri, hbf, hbx, hblk, hbel⟩ := hrel
        have HRI := Lib.hid hri
        have HBF := Lib.hid hbf
        have HBX := Lib.hid hbx
        have HBK := Lib.hid hblk
        have HBB := Lib.hid hbel
        have HBW := Lib.hid (show Below w.heap.size w wr by rw [HG.out]; exact hbel)
        have HOL := Lib.hid (show o.length = m by rw [hri.len, HN.out, HN'.out]; exact HM.out)
        have HQ := Lib.hid hri.carry
        clear hri hbf hbx hblk hbel
        by_cases hkl : k < n'
        · have HKL := Lib.hid (show k < lb.length by have := HN'.out; omega)
          have HST := Lib.hid (HRI.out.step' (by decide) HDA.out HDB.out HJL.out HKL.out)
          rw [HF.out] at HST
          obtain ⟨b2, o2, rfl, hb2', hx2⟩ := (HY.out.new HBW.out).at_ hkl
          have hx3 := HBK.out.cell (i := j + k) (by have := HOL.out; have := HM.out; omega)
          have hf3 := HBK.out.frozen (j + k)
          have d2 := dig_getD (B := 4294967296) (by decide) HDB.out k
          have d3 := dig_getD (B := 4294967296) (by decide) HRI.out.dig (j + k)
          have HC1 := Lib.hid (multiplying1_any (lb.getD k 0) (o.getD (j + k) 0) f q C (C + 1) wr d2 d3 HFL.out HQ.out HBF.out HBX.out)
          generalize lb.getD k 0 = x0 at hx2 d2 HST HC1
          generalize o.getD (j + k) 0 = y0 at hx3 d3 HST HC1
          obtain ⟨d, hd⟩ : ∃ d, (x0 * f + y0 + q) % 4294967296 = d := ⟨_, rfl⟩
          obtain ⟨q', hq'⟩ : ∃ d, (x0 * f + y0 + q) / 4294967296 = d := ⟨_, rfl⟩
          rw [hd] at HST HC1
          rw [hq'] at HST HC1
          clear hd hq' d2 d3
          have hj0 : (0 : Int) ≤ (j : Int) := by omega
          have hk0 : (0 : Int) ≤ (k : Int) := by omega
          have hjk0 : (0 : Int) ≤ (j : Int) + (k : Int) := by omega
          have hjk1 : (j : Int) + (k : Int) < (m : Int) := by have := HM.out; omega
          have e5 : ((j : Int) + (k : Int)).toNat = j + k := by omega
          go_wp2_with fail
          refine HC1.out.mono ?_
          rintro e w4 ⟨rfl, hw4⟩
          have hb4 : Blk .u32 w4 G 75 o := by
            rw [← hw4]; exact HBK.out.far (by have := HGC.out; show G ≠ C + 1; omega) _
          have hcell4 := hb4.cell (i := j + k) (by have := HOL.out; have := HM.out; omega)
          obtain ⟨y1, hy1⟩ : ∃ y1, o.getD (j + k) 0 = y1 := ⟨_, rfl⟩
          rw [hy1] at hcell4
          have hfr4 := hb4.frozen (j + k)
          have HF4 := Lib.hid (show Boxed w4 C 75 (.int .u32 (f : Int)) by rw [← hw4]; exact bx_far HBF.out (p := ⟨C + 1, 0, none⟩) (by show C ≠ C + 1; omega) _)
          have HX4 := Lib.hid (show Boxed w4 (C + 1) 83 (.int .u64 (q' : Int)) by rw [← hw4]; exact HBX.out.set _)
          have HK4 := Lib.hid (show Below G w w4 by rw [← hw4]; exact HBB.out.setCell (p := ⟨C + 1, 0, none⟩) (by have := HGC.out; show G ≤ C + 1; omega) _)
          have HS4 := Lib.hid (hb4.set_ (j + k) d)
          clear hw4 hb4 hy1
          go_wp2
          go_roundw
          case rel => exact ⟨k + 1, q', o.set (j + k) d, by omega, by go_num, HST.out, bx_far HF4.out (p := ⟨G, j + k, none⟩) (by have := HGC.out; show C ≠ G; omega) _, bx_far HX4.out (p := ⟨G, j + k, none⟩) (by have := HGC.out; show C + 1 ≠ G; omega) _, HS4.out, HK4.out.setCell (p := ⟨G, j + k, none⟩) (Nat.le_refl _) _⟩
          case measure => simp [intOf]; omega
        · obtain rfl : k = n' := by omega
          have HDN := Lib.hid (show MulInv 4294967296 la lb (j + 1) (o.set (j + k) q) by
            have := HRI.out
            rw [← HN'.out] at this ⊢
            exact this.done HJL.out)
          have HC1 := Lib.hid (multiplying1_any 0 0 f q C (C + 1) wr (by decide) (by decide) HFL.out HQ.out HBF.out HBX.out)
          rw [show 0 * f + 0 + q = q by omega, Nat.mod_eq_of_lt HQ.out] at HC1
          have hjk1 : (j : Int) + (k : Int) < (m : Int) := by have := HM.out; omega
          have e5 : ((j : Int) + (k : Int)).toNat = j + k := by omega
          go_wp2_with fail
          refine HC1.out.mono ?_
          rintro e w4 ⟨rfl, hw4⟩
          have hb4 : Blk .u32 w4 G 75 o := by
            rw [← hw4]; exact HBK.out.far (by have := HGC.out; show G ≠ C + 1; omega) _
          have hcell4 := hb4.cell (i := j + k) (by have := HOL.out; have := HM.out; omega)
          obtain ⟨y1, hy1⟩ : ∃ y1, o.getD (j + k) 0 = y1 := ⟨_, rfl⟩
          rw [hy1] at hcell4
          have hfr4 := hb4.frozen (j + k)
          have HK4 := Lib.hid (show Below G w w4 by rw [← hw4]; exact HBB.out.setCell (p := ⟨C + 1, 0, none⟩) (by have := HGC.out; show G ≤ C + 1; omega) _)
          have HS4 := Lib.hid (hb4.set_ (j + k) q)
          clear hw4 hb4 hy1
          go_wp2
          go_roundw
          case rel => exact ⟨j + 1, o.set (j + k) q, by omega, by go_num, HDN.out, HS4.out, HK4.out.setCell (p := ⟨G, j + k, none⟩) (Nat.le_refl _) _⟩
          case measure => simp [intOf]; omega
    · obtain rfl : j = n := by omega
      have HV := Lib.hid (show val 4294967296 o = val 4294967296 la * val 4294967296 lb by
        have h := HMI.out
        rw [← HN.out] at h
        exact h.all)
      have HOL := Lib.hid (show o.length = m by rw [HMI.out.len, HN.out, HN'.out]; exact HM.out)
      go_wp2
      go_ret
      exact ⟨G, m, o, rfl, Nat.le_of_eq HG.out, HBK.out, HOL.out, HMI.out.dig, ⟨HV.out, HOL.out⟩, HBW.out⟩
end Go.Proofs.Ytpcliampffeknaa
