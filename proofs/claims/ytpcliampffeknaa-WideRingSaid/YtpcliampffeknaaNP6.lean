/- Contracts of the program's words: a product by a word. -/
import Derived.Test.YtpcliampffeknaaNP5
namespace Go.Proofs.Ytpcliampffeknaa
open Go.RowKit
attribute [local go_sem ↓] Go.wp_at_zero Go.wp_at_succ

set_option maxRecDepth 100000 in
set_option maxHeartbeats 1600000 in
theorem times_any (la : List Nat) (A : Option Addr) (n c f m : Nat) (w : World) (hda : Dig 4294967296 la) (hx : LI .u32 w (.slice A n c) la) (hn : n ≤ 900000) (hf : f < 4294967296) (hm : m < 4294967296) :
    Calls Try.prog 47 #[.slice A n c, .int .u32 (f : Int), .int .u32 (m : Int)] w (RetB (fun o => val 4294967296 o = val 4294967296 la * f + m ∧ o.length = n + 1) w) := by
  obtain ⟨i0, hi0, hz0, hz1, hz2⟩ := info_parts w32_info
  have HX := Lib.hid hx
  have HN := Lib.hid hx.len.1
  have HDA := Lib.hid hda
  have HF := Lib.hid hf
  have HM := Lib.hid hm
  have HFT := Lib.hid (show val 4294967296 la * f + m < 4294967296 ^ (n + 1) by
    have := times_fits hda hf hm
    rwa [hx.len.1] at this)
  clear hx hda hf hm
  go_enter Try.func47, Try.ntmps47
  go_wp2_with (at_make; refine wpList_make_blk _ rfl _ _ 31 rfl 75 i0 .u32 4 Try.underlying31 hi0 hz0 hz1 hz2 (n + 1) _ rfl rfl (by omega) (by decide) (by omega) ?_; intro w1 hblk hb1; have hcell := hblk.cell (i := 0) (by simp); have hfr := hblk.frozen 0)
  refine (multiplying_any (f : Int) _).mono ?_
  rintro e w3 ⟨rfl, hw3⟩
  obtain ⟨G, hG⟩ : ∃ G, w.heap.size = G := ⟨_, rfl⟩
  rw [hG] at hblk hb1 hw3 hfr hcell ⊢
  obtain ⟨w2, hw2⟩ : ∃ w2, w1.setCell ⟨G, 0, none⟩ (.int .u32 (m : Int)) = w2 := ⟨_, rfl⟩
  rw [hw2] at hw3
  have hb2 : Blk .u32 w2 G 75 (m :: List.replicate n 0) := by
    have := hblk.set_ 0 m
    rw [hw2, List.replicate_succ, List.set_cons_zero] at this
    exact this
  have hbl2 : Below G w w2 := by rw [← hw2]; exact hb1.setCell (p := ⟨G, 0, none⟩) (Nat.le_refl _) _
  go_simp
  obtain ⟨C, hC⟩ : ∃ C, w2.heap.size = C := ⟨_, rfl⟩
  rw [hC]
  have HG := Lib.hid hG
  have HBF := Lib.hid (show Boxed w3 C 75 (.int .u32 (f : Int)) by rw [← hw3, ← hC]; exact (Boxed.new _ _ _).alloc _)
  have HBX := Lib.hid (show Boxed w3 (C + 1) 83 (.int .u64 ((0 : Nat) : Int)) by
    rw [← hw3, ← hC]
    have := Boxed.new (w2.alloc (.cells #[.int .u32 (f : Int)] 75)) 83 (.int .u64 0)
    rw [World.size_alloc] at this
    exact this)
  have HB3 := Lib.hid (show Blk .u32 w3 G 75 (m :: List.replicate n 0) by rw [← hw3]; exact (hb2.alloc _).alloc _)
  have HBL := Lib.hid (show Below G w w3 by rw [← hw3]; exact (hbl2.alloc (Nat.le_of_lt hb2.lt) _).alloc (by have := hb2.lt; simp; omega) _)
  have HGC := Lib.hid (show G < C by rw [← hC]; exact hb2.lt)
  clear hw3 hG hC hblk hb2 hb1 hbl2 hw2 hcell hfr
  go_wp2_with fail
  obtain ⟨z, hzd⟩ : ∃ z, m :: List.replicate n 0 = z := ⟨_, rfl⟩
  rw [hzd] at HB3
  have HZD := Lib.hid (show Dig 4294967296 z by rw [← hzd]; exact dig_cons.2 ⟨HM.out, dig_zeros (by decide) n⟩)
  have HZL := Lib.hid (show z.length = n + 1 by rw [← hzd]; simp)
  have HZV := Lib.hid (show val 4294967296 z = m by rw [← hzd, val, val_zeros]; rfl)
  clear hzd
  go_loopw [21] (fun i wr => ∃ (k q : Nat) (r : List Nat), k ≤ n + 1 ∧ i = .int .i64 k ∧ r.length = k ∧ Dig 4294967296 r ∧ q < 4294967296 ∧ val 4294967296 r + 4294967296 ^ k * q = val 4294967296 (la.take k) * f + val 4294967296 (z.take k) ∧ Boxed wr C 75 (.int .u32 (f : Int)) ∧ Boxed wr (C + 1) 83 (.int .u64 (q : Int)) ∧ Blk .u32 wr G 75 (r ++ z.drop k) ∧ Below G w wr) (fun i _ => n + 1 - (intOf i).toNat)
  case atStart => exact ⟨0, 0, [], Nat.zero_le _, rfl, rfl, dig_nil, by omega, by simp [val], HBF.out, HBX.out, by simpa using HB3.out, HBL.out⟩
  case round =>
    obtain ⟨k, q, r, hk, rfl, hrl, hrd, hq, hv, hbf, hbx, hblk, hbel⟩ := hrel
    have HRL := Lib.hid hrl
    have HRD := Lib.hid hrd
    have HQ := Lib.hid hq
    have HV := Lib.hid hv
    have HBF := Lib.hid hbf
    have HBX := Lib.hid hbx
    have HBK := Lib.hid hblk
    have HBB := Lib.hid hbel
    have HBW := Lib.hid (show Below w.heap.size w wr by rw [HG.out]; exact hbel)
    clear hrl hrd hq hv hbf hbx hblk hbel HB3 HBL
    by_cases hlt : k < n + 1
    · have d1 := dig_getD (B := 4294967296) (by decide) HDA.out k
      have d2 := dig_getD (B := 4294967296) (by decide) HZD.out k
      have HDR := Lib.hid (drop_cons (l := z) (k := k) (by rw [HZL.out]; exact hlt))
      have HST := Lib.hid (mulc_step (x := la.getD k 0) (y := z.getD k 0) HRL.out HV.out)
      rw [← val_take_succ, ← val_take_succ] at HST
      have HB1 := fun W => Lib.hid (fun (hb : Below wr.heap.size wr W) => wordAt_any la A n c k W ((HX.out.new HBW.out).new hb) (by omega) (by omega))
      have HC1 := fun W => Lib.hid (fun (hb : Boxed W C 75 (.int .u32 (f : Int))) (hb' : Boxed W (C + 1) 83 (.int .u64 (q : Int))) => multiplying1_any (la.getD k 0) (z.getD k 0) f q C (C + 1) W d1 d2 HF.out HQ.out hb hb')
      have hblk := HBK.out
      rw [HDR.out] at hblk
      have HBK2 := Lib.hid hblk
      have hlen : (r ++ (z.getD k 0 :: z.drop (k + 1))).length = n + 1 := by
        rw [List.length_append, List.length_cons, List.length_drop, HRL.out, HZL.out]; omega
      have HLEN := Lib.hid hlen
      have hcell := hblk.cell (i := k) (by omega)
      rw [getD_at r _ _ HRL.out] at hcell
      have HSM := Lib.hid (fun d => set_at r (z.drop (k + 1)) (z.getD k 0) d HRL.out)
      have HQ' := Lib.hid (mulc_lt d1 d2 HF.out HQ.out)
      clear hblk hlen
      generalize la.getD k 0 = x at d1 HST HC1 HB1 HQ'
      generalize z.getD k 0 = y at d2 HST HC1 hcell HBK2 HSM HDR HLEN HQ'
      have HD' := Lib.hid (show (x * f + y + q) % 4294967296 < 4294967296 from Nat.mod_lt _ (by decide))
      obtain ⟨d, hd⟩ : ∃ d, (x * f + y + q) % 4294967296 = d := ⟨_, rfl⟩
      obtain ⟨q', hq'⟩ : ∃ d, (x * f + y + q) / 4294967296 = d := ⟨_, rfl⟩
      rw [hd] at HST HD'
      rw [hq'] at HST HQ'
      have HDD := Lib.hid hd
      have HQQ := Lib.hid hq'
      clear hd hq' d1 d2
      have hk0 : (0 : Int) ≤ (k : Int) := by omega
      have hk1 : (k : Int) < (n : Int) + 1 := by omega
      go_wp2_with fail
      go_region_with ((first | (go_at_call 69; refine ((HB1 _).out (by exact (Below.refl _ wr).drew)).mono ?_; rintro e w' ⟨rfl, rfl⟩) | (go_at_call 80; refine ((HC1 _).out (by exact HBF.out) (by exact HBX.out)).mono ?_; rw [HDD.out, HQQ.out]; rintro e w4 ⟨rfl, hw4⟩; have hb4 : Blk .u32 w4 G 75 (r ++ (y :: z.drop (k + 1))) := (by rw [← hw4]; exact HBK2.out.drew.far (by have := HGC.out; show G ≠ C + 1; omega) _); have hcell4 := hb4.cell (i := k) (by rw [HLEN.out]; exact hlt); have hfr4 := hb4.frozen k; have HF4 := Lib.hid (show Boxed w4 C 75 (.int .u32 (f : Int)) by rw [← hw4]; exact bx_far (w := wr.drew) HBF.out (p := ⟨C + 1, 0, none⟩) (by show C ≠ C + 1; omega) _); have HX4 := Lib.hid (show Boxed w4 (C + 1) 83 (.int .u64 (q' : Int)) by rw [← hw4]; exact HBX.out.set _); have HK4 := Lib.hid (show Below G w w4 by rw [← hw4]; exact HBB.out.drew.setCell (p := ⟨C + 1, 0, none⟩) (by have := HGC.out; show G ≤ C + 1; omega) _); have HS4 := Lib.hid (hb4.set_ k d); clear hw4 hb4)))
      all_goals
        go_wp2
        go_roundw
        case rel =>
          refine ⟨k + 1, q', r ++ [d], by omega, by go_num, by rw [List.length_append, HRL.out]; rfl, dig_snoc HRD.out HD'.out, HQ'.out, HST.out, ?_, ?_, ?_, ?_⟩
          · exact bx_far HF4.out (p := ⟨G, k, none⟩) (by have := HGC.out; show C ≠ G; omega) _
          · exact bx_far HX4.out (p := ⟨G, k, none⟩) (by have := HGC.out; show C + 1 ≠ G; omega) _
          · have := HS4.out
            rw [HSM.out] at this
            exact this
          · exact HK4.out.setCell (p := ⟨G, k, none⟩) (Nat.le_refl _) _
        case measure => simp [intOf]; omega
    · obtain rfl : k = n + 1 := by omega
      have HDN := Lib.hid (carry_done (B := 4294967296) HRL.out (by decide) HFT.out (by
        have := HV.out
        rw [val_take_all (by have := HN.out; omega), val_take_all (l := z) (by have := HZL.out; omega), HZV.out] at this
        exact this))
      go_wp2
      go_ret
      have hb := HBK.out
      rw [List.drop_of_length_le (by rw [HZL.out]; exact Nat.le_refl _), List.append_nil] at hb
      exact ⟨G, _, r, rfl, Nat.le_of_eq HG.out, hb, HRL.out, HRD.out, ⟨HDN.out.2, HRL.out⟩, HBW.out⟩
end Go.Proofs.Ytpcliampffeknaa
