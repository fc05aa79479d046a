/- Contracts of the program's words: differences, in place and in new memory. -/
import Derived.Test.YtpcliampffeknaaNP4
import Derived.Deep.RegionWith
namespace Go.Proofs.Ytpcliampffeknaa
open Go.RowKit
attribute [local go_sem ↓] Go.wp_at_zero Go.wp_at_succ

set_option maxRecDepth 100000 in
set_option maxHeartbeats 1600000 in
theorem subtract_any (P seg T lb : List Nat) (A' : Option Addr) (G off n c n' c' : Nat) (w : World) (hblk : Blk .u32 w G 75 (P ++ (seg ++ T))) (hP : P.length = off) (hs : seg.length = n) (hds : Dig 4294967296 seg) (hdb : Dig 4294967296 lb) (hy : LO .u32 (· ≠ G) w (.slice A' n' c') lb) (hn : n ≤ 900000) (ho : off ≤ 900000) (hn' : n' ≤ 900000) (hle : val 4294967296 lb ≤ val 4294967296 seg) :
    Calls Try.prog 73 #[.slice (some ⟨G, off, none⟩) n c, .slice A' n' c'] w fun e w' => e = .returned (.tuple #[]) ∧ (∃ r, r.length = n ∧ Dig 4294967296 r ∧ val 4294967296 r = val 4294967296 seg - val 4294967296 lb ∧ Blk .u32 w' G 75 (P ++ (r ++ T))) ∧ Kp (· = G) w w' := by
  have HP := Lib.hid hP
  have HN := Lib.hid hs
  have HY := Lib.hid hy
  have HDA := Lib.hid hds
  have HDB := Lib.hid hdb
  have HLE := Lib.hid hle
  have HBK0 := Lib.hid hblk
  have HGW := Lib.hid hblk.lt
  clear hP hs hy hds hdb hle hblk
  go_enter Try.func73, Try.ntmps73
  go_wp2_with fail
  refine (subtracting_any w).mono ?_
  rintro e w3 ⟨rfl, hw3⟩
  obtain ⟨C, hC⟩ : ∃ C, w.heap.size = C := ⟨_, rfl⟩
  rw [hC]
  have HBX := Lib.hid (show Boxed w3 C 83 (.int .u64 ((0 : Nat) : Int)) by rw [← hw3, ← hC]; exact Boxed.new _ _ _)
  have HB3 := Lib.hid (show Blk .u32 w3 G 75 (P ++ (seg ++ T)) by rw [← hw3]; exact HBK0.out.alloc _)
  have HK3 := Lib.hid (show Kp (· = G) w w3 by rw [← hw3]; exact (Kp.refl _ w).alloc _)
  have HGC := Lib.hid (show G < C by rw [← hC]; exact HGW.out)
  have HCW := Lib.hid hC
  clear hw3 hC
  go_wp2_with fail
  go_loopw [9] (fun i wr => ∃ (k q : Nat) (r : List Nat), k ≤ n ∧ i = .int .i64 k ∧ r.length = k ∧ Dig 4294967296 r ∧ q ≤ 1 ∧ val 4294967296 r + val 4294967296 (lb.take k) = val 4294967296 (seg.take k) + 4294967296 ^ k * q ∧ Boxed wr C 83 (.int .u64 (q : Int)) ∧ Blk .u32 wr G 75 (P ++ (r ++ (seg.drop k ++ T))) ∧ Kp (· = G) w wr) (fun i _ => n - (intOf i).toNat)
  case atStart => exact ⟨0, 0, [], Nat.zero_le _, rfl, rfl, dig_nil, by omega, by simp [val], HBX.out, by simpa using HB3.out, HK3.out⟩
  case round =>
    obtain ⟨k, q, r, hk, rfl, hrl, hrd, hq, hv, hbx, hblk, hkp⟩ := hrel
    have HRL := Lib.hid hrl
    have HRD := Lib.hid hrd
    have HQ := Lib.hid hq
    have HV := Lib.hid hv
    have HBX := Lib.hid hbx
    have HBK := Lib.hid hblk
    have HKP := Lib.hid hkp
    clear hrl hrd hq hv hbx hblk hkp HB3 HK3
    by_cases hlt : k < n
    · have d1 := dig_getD (B := 4294967296) (by decide) HDA.out k
      have d2 := dig_getD (B := 4294967296) (by decide) HDB.out k
      have HDR := Lib.hid (drop_cons (l := seg) (k := k) (by rw [HN.out]; exact hlt))
      have HST := Lib.hid (minus_step (x := seg.getD k 0) (y := lb.getD k 0) (d := sle (seg.getD k 0) (lb.getD k 0) q) (c := sbo (seg.getD k 0) (lb.getD k 0) q) HRL.out HV.out (sb_eq d2 HQ.out))
      rw [← val_take_succ, ← val_take_succ] at HST
      have HLB := Lib.hid (HY.out.kp HKP.out (fun b _ h => h))
      have HB1 := fun W => Lib.hid (fun (hb : Below wr.heap.size wr W) => wordAt_any lb A' n' c' k W (HLB.out.new hb).weak (by omega) (by omega))
      have HC1 := fun W => Lib.hid (fun (hb : Boxed W C 83 (.int .u64 (q : Int))) => subtracting1_any (seg.getD k 0) (lb.getD k 0) q C W d1 d2 HQ.out hb)
      have HD' := Lib.hid (sle_lt (x := seg.getD k 0) (y := lb.getD k 0) (q := q) d1)
      have HQ' := Lib.hid (sbo_le (seg.getD k 0) (lb.getD k 0) q)
      have hblk := HBK.out
      rw [HDR.out, List.cons_append] at hblk
      have HBK2 := Lib.hid hblk
      have hlen : (P ++ (r ++ (seg.getD k 0 :: (seg.drop (k + 1) ++ T)))).length = off + k + 1 + (n - (k + 1) + T.length) := by
        rw [List.length_append, List.length_append, List.length_cons, List.length_append, List.length_drop, HP.out, HRL.out, HN.out]; omega
      have hcell := hblk.cell (i := off + k) (by omega)
      rw [getD_mid P r _ _ (by rw [HP.out, HRL.out])] at hcell
      have HSM := Lib.hid (fun d => set_mid P r (seg.drop (k + 1) ++ T) (seg.getD k 0) d (i := off + k) (by rw [HP.out, HRL.out]))
      clear hblk hlen
      generalize seg.getD k 0 = x at d1 HST HC1 hcell HD' HQ' HBK2 HSM HDR
      generalize lb.getD k 0 = y at d2 HST HB1 HC1 HD' HQ'
      obtain ⟨d, hd⟩ : ∃ d, sle x y q = d := ⟨_, rfl⟩
      obtain ⟨q', hq'⟩ : ∃ d, sbo x y q = d := ⟨_, rfl⟩
      rw [hd] at HST HD'
      rw [hq'] at HST HQ'
      have HDD := Lib.hid hd
      have HQQ := Lib.hid hq'
      clear hd hq' d1 d2
      have hk0 : (0 : Int) ≤ (k : Int) := by omega
      have hk1 : (k : Int) < (n : Int) := by omega
      go_wp2_with fail
      go_region_with ((first | (go_at_call 69; refine ((HB1 _).out (by exact (Below.refl _ wr).drew)).mono ?_; rintro e w' ⟨rfl, rfl⟩) | (go_at_call 89; refine ((HC1 _).out (by exact HBX.out)).mono ?_; rw [HDD.out, HQQ.out]; rintro e w4 ⟨rfl, hw4⟩; have hb4 : Blk .u32 w4 G 75 (P ++ (r ++ (x :: (seg.drop (k + 1) ++ T)))) := (by rw [← hw4]; exact HBK2.out.drew.far (by have := HGC.out; show G ≠ C; omega) _); have hcell4 := hb4.cell (i := off + k) (by rw [List.length_append, List.length_append, List.length_cons, HP.out, HRL.out]; omega); have hfr4 := hb4.frozen (off + k); have HX4 := Lib.hid (show Boxed w4 C 83 (.int .u64 (q' : Int)) by rw [← hw4]; exact HBX.out.set _); have HK4 := Lib.hid (show Kp (· = G) w w4 by rw [← hw4]; exact HKP.out.drew.setCell (p := ⟨C, 0, none⟩) (fun h => absurd h (by have := HCW.out; show ¬ C < _; omega)) _); have HS4 := Lib.hid (hb4.set_ (off + k) d); clear hw4 hb4)))
      all_goals
        go_wp2
        go_roundw
        case rel =>
          refine ⟨k + 1, q', r ++ [d], by omega, by go_num, by rw [List.length_append, HRL.out]; rfl, dig_snoc HRD.out HD'.out, HQ'.out, HST.out, ?_, ?_, ?_⟩
          · exact bx_far HX4.out (p := ⟨G, off + k, none⟩) (by have := HGC.out; show C ≠ G; omega) _
          · have := HS4.out
            rw [HSM.out] at this
            exact this
          · exact HK4.out.setCell (p := ⟨G, off + k, none⟩) (fun _ => rfl) _
        case measure => simp [intOf]; omega
    · obtain rfl : k = n := by omega
      go_wp2
      go_end0
      refine ⟨rfl, ⟨r, HRL.out, HRD.out, minus_done HRL.out HRD.out (by decide) HDA.out HN.out HLE.out HV.out, ?_⟩, HKP.out⟩
      have := HBK.out
      rw [List.drop_of_length_le (by rw [HN.out]; exact Nat.le_refl _), List.nil_append] at this
      exact this
set_option maxRecDepth 100000 in
theorem difference_any (la lb : List Nat) (A A' : Option Addr) (n n' c c' : Nat) (w : World) (hda : Dig 4294967296 la) (hdb : Dig 4294967296 lb) (hx : LI .u32 w (.slice A n c) la) (hy : LI .u32 w (.slice A' n' c') lb) (hn : n ≤ 900000) (hn' : n' ≤ 900000) (hle : val 4294967296 lb ≤ val 4294967296 la) :
    Calls Try.prog 62 #[.slice A n c, .slice A' n' c'] w (RetB (fun o => val 4294967296 o = val 4294967296 la - val 4294967296 lb ∧ o.length = n) w) := by
  have HX := Lib.hid hx
  have HY := Lib.hid hy
  have HN := Lib.hid hx.len.1
  have HDA := Lib.hid hda
  have HDB := Lib.hid hdb
  have HLE := Lib.hid hle
  clear hx hy hda hdb hle
  go_enter Try.func62, Try.ntmps62
  go_wp2_with fail
  refine (copied_any la A n c w HX.out (by omega)).mono ?_
  rintro e w2 ⟨rfl, hblk, hb2⟩
  obtain ⟨G, hG⟩ : ∃ G, w.heap.size = G := ⟨_, rfl⟩
  have HLT := Lib.hid (HY.out.lt.new hb2)
  have HB2 := Lib.hid hb2
  rw [hG] at hblk HLT ⊢
  have HBK := Lib.hid hblk
  have HG := Lib.hid hG
  clear hblk hb2 hG
  go_wp2_with fail
  refine (subtract_any [] la [] lb A' G 0 n n n' c' w2 (by simpa using HBK.out) rfl HN.out HDA.out HDB.out (HLT.out.mono (fun b _ h e => by omega)) hn (by decide) hn' HLE.out).mono ?_
  rintro e w3 ⟨rfl, ⟨r, hrl, hrd, hrv, hrb⟩, hk⟩
  have HRL := Lib.hid hrl
  have HRD := Lib.hid hrd
  have HRV := Lib.hid hrv
  have HRB := Lib.hid hrb
  have HK := Lib.hid hk
  clear hrl hrd hrv hrb hk
  go_wp2
  go_ret
  refine ⟨G, n, r, rfl, Nat.le_of_eq HG.out, by simpa using HRB.out, HRL.out, HRD.out, ⟨HRV.out, HRL.out⟩, ?_⟩
  exact ((Kp.new HB2.out).step HK.out (fun k hk e => by have := HG.out; omega)).below_new (fun _ _ e => e)
end Go.Proofs.Ytpcliampffeknaa
