/- Contracts of the program's integers. Conditions: as each statement has them. -/
import Derived.Test.YtbhnaffbgggabaaGreatB3
import Derived.WalkMore
import Derived.Deep.LoopGhost
namespace Go.Proofs.YtbhnaffbgggabaaGreat
open Go.RowKit
attribute [local go_sem ↓] Go.wp_at_zero Go.wp_at_succ

/-- What a function returns that returns the words of two numbers. -/
def RetQW (q r : Nat) (w : World) (e : Ending) (w' : World) : Prop := ∃ A1 n1 c1 A2 n2 c2, e = .returned (.tuple #[.slice A1 n1 c1, .slice A2 n2 c2]) ∧ LI .u32 w' (.slice A1 n1 c1) (digs 4294967296 q) ∧ (digs 4294967296 q).length = n1 ∧ LI .u32 w' (.slice A2 n2 c2) (digs 4294967296 r) ∧ (digs 4294967296 r).length = n2 ∧ Below w.heap.size w w'
/-- s[j:h] of a block. -/
theorem Blk.cut {k : IntKind} {P : Program} {ty e : TypeId} {w : World} {g n c : Nat} {t : TypeId} {p s q : List Nat} (ht : P.underlying ty = some (.slice e)) (hs : ∀ W, (sizeOf e).run P W = .ok 1 W) (hb : Blk k w g t (p ++ (s ++ q))) (hn : (p ++ (s ++ q)).length = n) (hc : n ≤ c) {j m : Nat} (hj : p.length = j) (hm : s.length = m) (hm0 : 0 < m) (lo hi : Int) (hlo : lo = (j : Int)) (hhi : hi = ((j + m : Nat) : Int)) :
    (∀ W, (Instr.slice ty (.slice (some ⟨g, 0, none⟩) n c) (some (.int .i64 lo)) (some (.int .i64 hi)) none).run P W = .ok (.slice (some ⟨g, j, none⟩) m (c - j)) W) ∧ LO k (· = g) w (.slice (some ⟨g, j, none⟩) m (c - j)) s := by
  have he : P.elem ty = e := by simp [Program.elem, ht]
  have hl : j + m + q.length = n := by rw [← hn, List.length_append, List.length_append, hj, hm, Nat.add_assoc]
  subst hlo hhi
  refine ⟨fun W => ?_, ?_⟩
  · rw [run_slice_lh (ht := by rw [ht, he]) (h0 := by omega) (h1 := by omega) (h2 := by omega), he, hs W]
    simp only [Result.andThen, sliced, Int.toNat_natCast]
    rw [if_neg (by omega), Option.map_some, Go.WideShapes.add_plain, Nat.mul_one, Nat.zero_add, Nat.add_sub_cancel_left]
  · have := hb.li (off := j) (n := m) (c := c - j) (by rw [hn]; omega) (by omega)
    rwa [← hj, List.drop_left, ← hm, List.take_left, hj, hm] at this
theorem pow2_le {z : Nat} (h : z ≤ 31) : 2 ^ z < 4294967296 := by
  have := Nat.pow_le_pow_right (show 0 < 2 by decide) h
  have e : (2 : Nat) ^ 31 = 2147483648 := by decide
  omega

set_option maxRecDepth 100000 in
set_option maxHeartbeats 1600000 in
theorem divided_lt (x y : Nat) (A A' : Option Addr) (n n' c c' : Nat) (w : World) (hx : LI .u32 w (.slice A n c) (digs 4294967296 x)) (hy : LI .u32 w (.slice A' n' c') (digs 4294967296 y)) (hn : n ≤ 200000) (hlt : n < n') :
    Calls Tryz.prog 216 #[.slice A n c, .slice A' n' c'] w (RetQW (x / y) (x % y) w) := by
  have h1 := hx.len.1
  have hxy := digs_len_lt (B := 4294967296) (a := x) (b := y) (by decide) (by rw [hx.len.1, hy.len.1]; exact hlt)
  rw [Nat.div_eq_of_lt hxy, Nat.mod_eq_of_lt hxy]
  have HX := hJ hx
  have HL := hJ h1
  clear hx hy hxy h1
  go_enter Tryz.func216, Tryz.ntmps216
  go_wp2_with fail
  go_step3
  go_wp2_with fail
  refine (copied_any _ A n c w HX.out (by omega)).mono ?_
  rintro e w2 ⟨rfl, hb, hbel⟩
  have HB := hJ hb
  clear hb
  go_wp2
  rw [Exit.noGoto_ret]
  go_ret2
  exact ⟨none, 0, 0, some ⟨w.heap.size, 0, none⟩, n, n, rfl, by rw [digs_zero]; exact LO.nil, by rw [digs_zero]; rfl, (HB.out.li0 HL.out (Nat.le_refl _)).weak, HL.out, hbel⟩

set_option maxRecDepth 100000 in
set_option maxHeartbeats 3200000 in
theorem divided_ge (x y : Nat) (A A' : Option Addr) (n m c c' : Nat) (w : World) (hx : LI .u32 w (.slice A n c) (digs 4294967296 x)) (hy : LI .u32 w (.slice A' (m + 1) c') (digs 4294967296 y)) (hn : n ≤ 200000) (hge : m + 1 ≤ n) :
    Calls Tryz.prog 216 #[.slice A n c, .slice A' (m + 1) c'] w (RetQW (x / y) (x % y) w) := by
  obtain ⟨i0, hi0, hz0, hz1, hz2⟩ := info_parts w32_info
  have HNX := hJ hx.len.1
  have HNY := hJ hy.len.1
  have HY0 := hJ (show 0 < y by
    rcases Nat.eq_zero_or_pos y with e | e
    · have := hy.len.1; rw [e, digs_zero] at this; cases this
    · exact e)
  have HX := hJ hx
  have HY := hJ hy
  have HDX := hJ (dig_digs (B := 4294967296) (by decide) x)
  have HDY := hJ (dig_digs (B := 4294967296) (by decide) y)
  have HVX := hJ (val_digs (B := 4294967296) (by decide) x)
  have HVY := hJ (val_digs (B := 4294967296) (by decide) y)
  have HXL := hJ (show x < 4294967296 ^ n by rw [← HNX.out]; exact digs_lt (by decide) x)
  have HYG := hJ (show 4294967296 ^ m ≤ y by have := digs_ge (B := 4294967296) (n := y) (by decide) (by have := HY0.out; omega); rwa [HNY.out, Nat.add_sub_cancel] at this)
  have htop := digs_last (B := 4294967296) (n := y) (by decide) (by have := HY0.out; omega)
  rw [HNY.out, Nat.add_sub_cancel] at htop
  obtain ⟨b1, o1, rfl, hb1, hc1⟩ := hy.at_ (j := m) (by omega)
  have htl := dig_getD (B := 4294967296) (by decide) HDY.out m
  obtain ⟨t, ht⟩ : ∃ t, (digs 4294967296 y).getD m 0 = t := ⟨_, rfl⟩
  rw [ht] at htop htl hc1
  have HT := hJ ht
  clear hx hy ht
  have s1 : (m : Int) + 1 ≤ (n : Int) := by omega
  go_enter Tryz.func216, Tryz.ntmps216
  go_wp2_with fail
  go_step3
  go_wp2_with fail
  refine (lz32_any t w (by omega) htl).mono ?_
  rintro e w' ⟨⟨z, rfl, hz31, hz⟩, rfl⟩
  obtain ⟨f, hf⟩ : ∃ f : Nat, 2 ^ z = f := ⟨_, rfl⟩
  have hf0 : 0 < f := by rw [← hf]; exact Nat.pow_pos (by decide)
  have hfl : f < 4294967296 := by rw [← hf]; exact pow2_le hz31
  rw [hf] at hz
  have HTF := hJ hz
  have HF := hJ hf
  clear hz
  have hsh : IntKind.u32.wrap (1 * 2 ^ z) = (f : Int) := by
    have e : (2 : Int) ^ z = ((2 ^ z : Nat) : Int) := by rw [Int.natCast_pow]; rfl
    rw [e, hf, Int.one_mul]
    exact IntWalk.u32_in _ (by omega)
  have hsh2 : IntKind.u32.wrap (2 ^ z) = (f : Int) := by rw [← hsh, Int.one_mul]
  clear hf
  go_wp2_with fail
  have HT1 := hJ (times_any _ A n c f 0 w HDX.out HX.out (by omega) hfl (by decide))
  rw [show ((0 : Nat) : Int) = 0 from rfl] at HT1
  refine HT1.out.mono ?_
  rintro e w1 ⟨G1, N1, o1', rfl, hg1, hblk1, hol1, hod1, ⟨hov1, hon1⟩, hb1'⟩
  have HBK1 := hJ hblk1
  have HOD1 := hJ hod1
  have HOV1 := hJ (show val 4294967296 o1' = x * f by rw [hov1, HVX.out, Nat.add_zero])
  have HB1 := hJ hb1'
  have HG1 := hJ hg1
  have hN1 : N1 = n + 1 := by omega
  subst hN1
  have HOL1 := hJ hol1
  clear hblk1 hod1 hov1 hb1' hg1 hol1 hon1 HT1
  go_wp2_with fail
  have HT2 := hJ (times_any _ _ (m + 1) c' f 0 w1 HDY.out (HY.out.new HB1.out) (by omega) hfl (by decide))
  rw [show ((0 : Nat) : Int) = 0 from rfl] at HT2
  refine HT2.out.mono ?_
  rintro e w2 ⟨G2, N2, o2', rfl, hg2, hblk2, hol2, hod2, ⟨hov2, hon2⟩, hb2'⟩
  have HBK2 := hJ hblk2
  have HOD2 := hJ hod2
  obtain ⟨V, hV⟩ : ∃ V, y * f = V := ⟨_, rfl⟩
  have HVV := hJ hV
  have HOV2 := hJ (show val 4294967296 o2' = V by rw [hov2, HVY.out, Nat.add_zero, hV])
  have HB2 := hJ hb2'
  have HG2 := hJ hg2
  have HBK12 := hJ (HBK1.out.new hb2')
  have hN2 : N2 = m + 2 := by omega
  subst hN2
  have HOL2 := hJ hol2
  have HVT := hJ (show V < 4294967296 ^ (m + 1) by
    rw [← hV]
    exact times_top (by decide) HDY.out HNY.out HVY.out HT.out HTF.out hf0)
  have HVG := hJ (show 4294967296 ^ m * f ≤ V by rw [← hV]; exact Nat.mul_le_mul_right f HYG.out)
  have HV0 := hJ (show 0 < V by rw [← hV]; exact Nat.mul_pos HY0.out hf0)
  have HXF := hJ (show x * f < 4294967296 ^ n * f from Nat.mul_lt_mul_of_pos_right HXL.out hf0)
  clear hblk2 hod2 hov2 hb2' hg2 hol2 hon2 HT2 hV
  go_wp2_with fail
  refine (trimmed_ok (· = G2) o2' _ (m + 2) (m + 2) w2 HOD2.out (HBK2.out.li0 HOL2.out (Nat.le_refl _)) (by omega)).mono ?_
  rw [HOV2.out]
  rintro e w' ⟨⟨k2, rfl, hl2, hk2, hk2le, htk2⟩, rfl⟩
  have HLV := hJ (show (digs 4294967296 V).length = m + 1 by
    have h1 := digs_len_le (B := 4294967296) (by decide) HVT.out
    have h2 := digs_lt (B := 4294967296) (by decide) V
    rcases Nat.lt_or_ge (digs 4294967296 V).length (m + 1) with h | h
    · have h3 := Nat.pow_le_pow_right (show 0 < 4294967296 by decide) (show (digs 4294967296 V).length ≤ m by omega)
      have h4 := HVG.out
      have h5 := Nat.le_mul_of_pos_right (4294967296 ^ m) hf0
      omega
    · omega)
  have hk2e : k2 = m + 1 := by rw [← hk2]; exact HLV.out
  subst hk2e
  have HLB := hJ hl2
  clear hl2 hk2 hk2le htk2
  obtain ⟨nq, hnq⟩ : ∃ nq, n = m + nq := ⟨n - m, by omega⟩
  have HNQ := hJ hnq
  have hnq1 : 1 ≤ nq := by omega
  have hnq2 : nq ≤ 200000 := by omega
  clear hnq
  have HLNI := hJ (show ((n : Int) + 1 - ((m : Int) + 1)) = (nq : Int) by have := HNQ.out; omega)
  go_wp2_with (at_make; refine wpList_make_blk _ rfl _ _ 31 rfl 218 i0 .u32 4 Tryz.underlying31 hi0 hz0 hz1 hz2 nq _ rfl rfl (by have := HNQ.out; omega) (by decide) (by omega) ?_; intro w3 hblk3 hb3)
  obtain ⟨G3, hG3⟩ : ∃ G3, w2.heap.size = G3 := ⟨_, rfl⟩
  rw [hG3] at hblk3 ⊢
  have HBK3 := hJ hblk3
  have HB3 := hJ hb3
  have HBK13 := hJ (HBK12.out.new hb3)
  have HLB3 := hJ (HLB.out.new hb3)
  have HG12 := hJ (show G1 < G2 from Nat.lt_of_lt_of_le HBK1.out.lt HG2.out)
  have HG23 := hJ (show G2 < G3 by rw [← hG3]; exact HBK2.out.lt)
  have HBW3 := hJ (show Below w.heap.size w w3 from (HB1.out.trans (HB2.out.mono HB1.out.size)).trans (hb3.mono (HB1.out.trans (HB2.out.mono HB1.out.size)).size))
  have HLAST := hJ (dig_digs (B := 4294967296) (by decide) V)
  have HVLB := hJ (val_digs (B := 4294967296) (by decide) V)
  have hbt : 0 < (digs 4294967296 V).getD m 0 := by
    have := digs_last (B := 4294967296) (n := V) (by decide) (by have := HV0.out; omega)
    rw [HLV.out, Nat.add_sub_cancel] at this
    omega
  have HBT := hJ hbt
  clear hblk3 hb3 hG3 hbt hc1 hsh hsh2
  have HST := hJ (show DivInv 4294967296 (x * f) V m (n + 1) nq nq o1' (List.replicate nq 0) from
    DivInv.start (by decide) HOL1.out HOD1.out HOV1.out (by
      have h1 := HXF.out
      have h2 := Nat.mul_le_mul_left (4294967296 ^ nq) HVG.out
      rw [← Nat.mul_assoc, ← Nat.pow_add, Nat.add_comm nq m, ← HNQ.out] at h2
      omega))
  generalize digs 4294967296 V = lb at HLB HLV HLB3 HLAST HVLB HBT
  go_wp2
  go_step3
  go_wp2
  go_loopg [7] nq (fun g s7 wr => ∃ (z : Int) (r oq : List Nat), s7 = .int .i64 z ∧ z = (g : Int) - 1 ∧ g ≤ nq ∧ DivInv 4294967296 (x * f) V m (n + 1) nq g r oq ∧ Blk .u32 wr G1 218 r ∧ Blk .u32 wr G3 218 oq ∧ LO .u32 (· = G2) wr (.slice (some ⟨G2, 0, none⟩) (m + 1) (m + 2)) lb ∧ Below w.heap.size w wr)
  case atStart => exact ⟨(nq : Int) - 1, o1', _, rfl, rfl, Nat.le_refl _, HST.out, HBK13.out, HBK3.out, HLB3.out, HBW3.out⟩
  case round =>
    clear HST HBK13 HBK3 HLB3 HBW3 HBK1 HBK2 HBK12 HLB HB1 HB2 HB3 HX HY
    obtain ⟨z, r, oq, rfl, hz, hgn, hdi, hbr, hbq, hlb, hbw⟩ := hrel
    have HDI := hJ hdi
    have HBR := hJ hbr
    have HBQ := hJ hbq
    have HLB := hJ hlb
    have HBW := hJ hbw
    clear hdi hbr hbq hlb hbw
    cases gk with
    | zero =>
      obtain rfl : z = -1 := by omega
      clear hz
      have HDD := hJ HDI.out.done
      have HDV := hJ (div_scaled (x := x) (y := y) (f := f) (q := val 4294967296 oq) (r := val 4294967296 r) hf0 HY0.out (by rw [HVV.out]; exact HDD.out.1) (by rw [HVV.out]; exact HDD.out.2))
      go_wp2_with fail
      refine (shorten_any r [] G1 (n + 1) (n + 1) f wr (by rw [List.append_nil]; exact HBR.out) HDI.out.rl HDI.out.rd (by omega) hf0 hfl).mono ?_
      rintro e w5 ⟨rfl, ⟨r5, hrl5, hrd5, hrv5, hrb5⟩, hk5⟩
      rw [List.append_nil] at hrb5
      have HRL5 := hJ hrl5
      have HRD5 := hJ hrd5
      have HRV5 := hJ (show val 4294967296 r5 = x % y by rw [hrv5]; exact HDV.out.2.symm)
      have HRB5 := hJ hrb5
      have HQ5 := hJ (HBQ.out.kp hk5 (by have := HG12.out; have := HG23.out; omega))
      have HBW5 := hJ (show Below w.heap.size w w5 from ((Kp.new HBW.out).step hk5 (t := fun _ => False) (fun k h1 h2 => by have := HG1.out; omega)).below_new (fun _ _ e => e))
      clear hrl5 hrd5 hrv5 hrb5 hk5
      obtain ⟨md, hmd⟩ : ∃ md, val 4294967296 r % f = md := ⟨_, rfl⟩
      go_wp2_with fail
      refine (trimmed_ok (· = G3) oq _ nq nq w5 HDI.out.qd (HQ5.out.li0 HDI.out.ql (Nat.le_refl _)) (by omega)).mono ?_
      rw [← HDV.out.1]
      rintro e w' ⟨⟨k6, rfl, hl6, hk6, _, _⟩, rfl⟩
      have HL6 := hJ hl6
      have HK6 := hJ hk6
      clear hl6 hk6
      go_wp2_with fail
      refine (trimmed_ok (· = G1) r5 _ (n + 1) (n + 1) w5 HRD5.out (HRB5.out.li0 HRL5.out (Nat.le_refl _)) (by omega)).mono ?_
      rw [HRV5.out]
      rintro e w' ⟨⟨k7, rfl, hl7, hk7, _, _⟩, rfl⟩
      have HL7 := hJ hl7
      have HK7 := hJ hk7
      clear hl7 hk7
      go_wp2
      try rw [Exit.noGoto_ret]
      go_ret2
      exact ⟨_, k6, _, _, k7, _, rfl, HL6.out.weak, HK6.out, HL7.out.weak, HK7.out, HBW5.out⟩
    | succ j =>
      obtain rfl : z = (j : Int) := by omega
      clear hz
      obtain ⟨P, seg, T, hr, hP, hs, hdP, hds, hdT, hT0, hDlt, hxe⟩ := HDI.out.part (by decide) HVT.out (show j + (m + 2) ≤ n + 1 by have := HNQ.out; omega)
      subst hr
      obtain ⟨hcut, hlseg⟩ := HBR.out.cut (P := Tryz.prog) (ty := 31) Tryz.underlying31 w32_size HDI.out.rl (Nat.le_refl _) hP hs (by omega) ((j : Int)) ((j : Int) + ((m : Int) + 1) + 1) rfl (by omega)
      have HSG := hJ hlseg
      have HP := hJ hP
      have HS := hJ hs
      have HDP := hJ hdP
      have HDS := hJ hds
      have HDT := hJ hdT
      have HT0 := hJ hT0
      have HDL := hJ hDlt
      have HXE := hJ hxe
      clear hlseg hP hs hdP hds hdT hT0 hDlt hxe
      have hj0 : (0 : Int) ≤ (j : Int) := by omega
      have hjq : j < nq := by omega
      go_wp2_with fail
      refine (guess_any seg lb _ _ m _ _ wr HDS.out HLAST.out HSG.out.weak HLB.out.weak (by omega) HBT.out).mono ?_
      rintro e w4 ⟨⟨g0, rfl, hg0, hgq⟩, hb4⟩
      rw [HVLB.out] at hgq
      have HG0 := hJ hg0
      have HGQ := hJ hgq
      have HB4 := hJ hb4
      have HBR4 := hJ (HBR.out.new hb4)
      have HBQ4 := hJ (HBQ.out.new hb4)
      have HLB4 := hJ (HLB.out.new hb4)
      have HBW4 := hJ (HBW.out.trans (hb4.mono HBW.out.size))
      clear hg0 hgq hb4 hcut HBR HBQ HLB HBW
      go_wp2_with fail
      go_loopg [9] g0 (fun g2 s9 wy => s9 = .int .u32 (g2 : Int) ∧ g2 < 4294967296 ∧ (∀ q, q < 4294967296 → q * V ≤ val 4294967296 seg → q ≤ g2) ∧ Below w4.heap.size w4 wy)
      case atStart => exact ⟨rfl, HG0.out, HGQ.out, Below.refl _ _⟩
      case round =>
        clear HG0 HGQ HB4
        obtain ⟨rfl, hgl, hgq, hby⟩ := hrel
        have HGL := hJ hgl
        have HGQ := hJ hgq
        have HBY := hJ hby
        clear hgl hgq hby
        have HTM := hJ (times_any lb _ (m + 1) (m + 2) gk 0 _ HLAST.out (HLB4.out.new HBY.out).weak (by omega) HGL.out (by decide))
        rw [show ((0 : Nat) : Int) = 0 from rfl] at HTM
        go_wp2_with fail
        refine HTM.out.mono ?_
        rintro e w5 ⟨G5, N5, o5, rfl, hg5, hblk5, hol5, hod5, ⟨hov5, hon5⟩, hb5⟩
        have hN5 : N5 = m + 2 := by omega
        subst hN5
        rw [HVLB.out, Nat.add_zero] at hov5
        have HB5 := hJ (HBY.out.trans (hb5.mono HBY.out.size))
        have HLO5 := hJ (hblk5.li0 hol5 (Nat.le_refl (m + 2)))
        have HOD5 := hJ hod5
        have HOV5 := hJ hov5
        have HG5 := hJ (show G1 < G5 from Nat.lt_of_lt_of_le HBR4.out.lt (Nat.le_trans HBY.out.size hg5))
        clear hg5 hblk5 hol5 hod5 hov5 hon5 hb5 HTM
        obtain ⟨D, hD⟩ : ∃ D, val 4294967296 seg = D := ⟨_, rfl⟩
        rw [hD] at HGQ
        have HD := hJ hD
        obtain ⟨v, hv⟩ : ∃ v, cmpN (V * gk) D = v := ⟨_, rfl⟩
        have HCMP := hJ (compareWords_eq o5 seg _ _ (m + 2) (m + 2) (n + 1 - j) w5 HOD5.out HDS.out HLO5.out.weak ((HBR4.out.new HB5.out).cut (P := Tryz.prog) (ty := 31) Tryz.underlying31 w32_size HDI.out.rl (Nat.le_refl _) HP.out HS.out (by omega) ((j : Int)) ((j : Int) + ((m : Int) + 1) + 1) rfl (by omega)).2.weak (by omega))
        rw [HOV5.out, hD, hv] at HCMP
        have HV := hJ hv
        clear hD hv
        by_cases hle : V * gk ≤ D
        · have hv0 : v ≤ 0 := by rw [← HV.out]; unfold cmpN; split <;> (try split) <;> omega
          have HLE := hJ hle
          have HGD := hJ (show gk = D / V by
            refine (Nat.div_eq_of_lt_le (by rw [Nat.mul_comm]; exact hle) ?_).symm
            rcases Nat.lt_or_ge D ((gk + 1) * V) with h | h
            · exact h
            · have h1 : gk + 1 < 4294967296 := by
                have h2 := HDL.out
                rw [HD.out] at h2
                have h3 : (gk + 1) * V < 4294967296 * V := by omega
                exact Nat.lt_of_mul_lt_mul_right h3
              have := HGQ.out (gk + 1) h1 h
              omega)
          clear hle
          go_wp2_with fail
          refine HCMP.out.mono ?_
          rintro e w6 ⟨rfl, hb6⟩
          have HB6 := hJ (HB5.out.trans (hb6.mono HB5.out.size))
          have HLO6 := hJ (HLO5.out.new hb6)
          clear hb6 HCMP
          go_wp2_with fail
          refine (subtract_any P seg T o5 _ G1 j (m + 2) (n + 1 - j) (m + 2) (m + 2) w6 (HBR4.out.new HB6.out) HP.out HS.out HDS.out HOD5.out (HLO6.out.mono (fun b _ h e => by have := HG5.out; omega)) (by omega) (by omega) (by omega) (by rw [HOV5.out, HD.out]; exact HLE.out)).mono ?_
          rw [HOV5.out, HD.out]
          rintro e w7 ⟨rfl, ⟨s7, hsl7, hsd7, hsv7, hsb7⟩, hk7⟩
          have HSL7 := hJ hsl7
          have HSD7 := hJ hsd7
          have HSV7 := hJ hsv7
          have HSB7 := hJ hsb7
          have hbq7 := (HBQ4.out.new HB6.out).kp hk7 (by have := HG12.out; have := HG23.out; omega)
          have HBQ7 := hJ hbq7
          have HLB7 := hJ ((HLB4.out.new HB6.out).kp hk7 (fun b _ h e => by have := HG12.out; omega))
          have HBW7 := hJ (show Below w.heap.size w w7 from ((Kp.new (HBW4.out.trans (HB6.out.mono HBW4.out.size))).step hk7 (t := fun _ => False) (fun k h1 h2 => by have := HG1.out; omega)).below_new (fun _ _ e => e))
          have hc7 := hbq7.cell (i := j) (by rw [HDI.out.ql]; exact hjq)
          obtain ⟨old, hold⟩ : ∃ old, oq.getD j 0 = old := ⟨_, rfl⟩
          rw [hold] at hc7
          have hf7 := hbq7.frozen j
          have HS8 := hJ (hbq7.set_ j gk)
          have HNX := hJ (HDI.out.next HV0.out (s' := s7) (q := gk) rfl HP.out HS.out HSL7.out HDP.out HDT.out HSD7.out HT0.out HGL.out (by rw [HD.out]; exact HGD.out) (by rw [HD.out]; exact HSV7.out) HXE.out hjq)
          clear hsl7 hsd7 hsv7 hsb7 hk7 hbq7 hold
          go_wp2
          go_roundg j
          case measure => omega
          case rel =>
            refine ⟨(j : Int) - 1, P ++ (s7 ++ T), oq.set j gk, rfl, rfl, by omega, HNX.out, ?_, HS8.out, ?_, ?_⟩
            · exact HSB7.out.far (p := ⟨G3, j, none⟩) (by have := HG12.out; have := HG23.out; show G1 ≠ G3; omega) _
            · exact HLB7.out.kp (t := (· = G3)) ((Kp.refl (· = G3) _).setCell (p := ⟨G3, j, none⟩) (fun _ => rfl) _) (fun b _ h e => by have := HG23.out; omega)
            · exact HBW7.out.setCell (p := ⟨G3, j, none⟩) (by have := HG1.out; have := HG12.out; have := HG23.out; show w.heap.size ≤ G3; omega) _
        · have hv0 : ¬ v ≤ 0 := by rw [← HV.out, cmpN, if_neg (by omega), if_pos (by omega)]; decide
          have hg1 : 1 ≤ gk := by
            rcases Nat.eq_zero_or_pos gk with h | h
            · subst h; omega
            · exact h
          have hg2 : gk < 4294967296 := HGL.out
          have HLE := hJ hle
          clear hle
          go_wp2_with fail
          refine HCMP.out.mono ?_
          rintro e w6 ⟨rfl, hb6⟩
          have HB6 := hJ (HB5.out.trans (hb6.mono HB5.out.size))
          clear hb6 HCMP
          go_wp2
          go_roundg (gk - 1)
          case measure => omega
          case rel =>
            refine ⟨congrArg _ (by omega), by omega, fun q hq h => ?_, HB6.out⟩
            have h1 := HGQ.out q hq (by rw [← HD.out]; exact h)
            rcases Nat.lt_or_ge q gk with h2 | h2
            · omega
            · obtain rfl : q = gk := by omega
              have := HLE.out
              rw [HD.out, Nat.mul_comm] at h
              omega
theorem dividedp_any (x y : Nat) (A A' : Option Addr) (n n' c c' : Nat) (w : World) (hx : LI .u32 w (.slice A n c) (digs 4294967296 x)) (hy : LI .u32 w (.slice A' n' c') (digs 4294967296 y)) (hn : n ≤ 200000) (hy0 : 0 < y) :
    Calls Tryz.prog 216 #[.slice A n c, .slice A' n' c'] w (RetQW (x / y) (x % y) w) := by
  rcases Nat.lt_or_ge n n' with h | h
  · exact divided_lt x y A A' n n' c c' w hx hy hn h
  · have hl := hy.len.1
    rcases Nat.eq_zero_or_pos n' with h0 | h0
    · subst h0
      have := (digs_nil (B := 4294967296) (by decide)).1 (List.eq_nil_of_length_eq_zero hl)
      omega
    · obtain ⟨m, rfl⟩ : ∃ m, n' = m + 1 := ⟨n' - 1, by omega⟩
      exact divided_ge x y A A' n m c c' w hx hy hn h
end Go.Proofs.YtbhnaffbgggabaaGreat

namespace Go.Proofs.YtbhnaffbgggabaaGreat
open Go.RowKit
attribute [local go_sem ↓] Go.wp_at_zero Go.wp_at_succ

/-- The program's integer: a sign, and the words of the absolute value, in a block of the kind ok. -/
def PIo (ok : Nat → Prop) (w : World) (neg : Bool) (A : Option Addr) (n c : Nat) (x : Int) : Prop := (neg = decide (x < 0)) ∧ (digs 4294967296 x.natAbs).length = n ∧ LO .u32 ok w (.slice A n c) (digs 4294967296 x.natAbs)
abbrev PI (w : World) (neg : Bool) (A : Option Addr) (n c : Nat) (x : Int) : Prop := PIo (fun _ => True) w neg A n c x
theorem PIo.new {ok : Nat → Prop} {w w' : World} {neg : Bool} {A : Option Addr} {n c : Nat} {x : Int} (h : PIo ok w neg A n c x) (hb : Below w.heap.size w w') : PIo ok w' neg A n c x := ⟨h.1, h.2.1, h.2.2.new hb⟩
theorem PIo.weak {ok : Nat → Prop} {w : World} {neg : Bool} {A : Option Addr} {n c : Nat} {x : Int} (h : PIo ok w neg A n c x) : PI w neg A n c x := ⟨h.1, h.2.1, h.2.2.weak⟩
theorem PIo.eq {ok : Nat → Prop} {w : World} {neg : Bool} {A : Option Addr} {n c : Nat} {x y : Int} (h : PIo ok w neg A n c x) (e : x = y) : PIo ok w neg A n c y := e ▸ h
theorem PIo.box {ok : Nat → Prop} {w : World} {neg : Bool} {A : Option Addr} {n c : Nat} {x : Int} {t : TypeId} {B : Nat} {z0 z1 : Value} (h : PIo ok w neg A n c x) (hp : P2 t w B z0 z1) (h0 : isI z0 = false) (h1 : isI z1 = false) (u0 u1 : Value) : PIo ok ((w.setCell ⟨B, 0, none⟩ u0).setCell ⟨B, 1, none⟩ u1) neg A n c x := ⟨h.1, h.2.1, h.2.2.box hp h0 h1 u0 u1⟩
theorem PI.zero (w : World) : PI w false none 0 0 0 := ⟨rfl, by rw [Int.natAbs_zero, digs_zero]; rfl, by rw [Int.natAbs_zero, digs_zero]; exact LO.nil⟩
/-- What a function returns that returns such an integer. -/
def RetP (x : Int) (w : World) (e : Ending) (w' : World) : Prop := ∃ neg A n c, e = .returned (.agg #[.bool neg, .slice A n c]) ∧ PI w' neg A n c x ∧ Below w.heap.size w w'
/-- The same with an error. -/
def RetPE (x code : Int) (w : World) (e : Ending) (w' : World) : Prop := ∃ neg A n c, e = .returned (.tuple #[.agg #[.bool neg, .slice A n c], .int .i64 code]) ∧ PI w' neg A n c x ∧ Below w.heap.size w w'
theorem W_size : (Tryz.prog.info? 33).map (·.size) = some 2 := by kernel_rfl
theorem results_cell1 {P : Program} {fn : Func} {p u : Tmp} {ty : TypeId} (h : fn.results = #[.cell p ty, .tmp u]) (tmps : Array Value) (w : World) (g : Nat) (t : TypeId) (cs : Array Value) (fr : Nat × Nat) (d : TypeDesc)
    (hp : tmps.getD p undef = .pointer (some ⟨g, 0, none⟩)) (hg : w.heap[g]? = some (.cells cs t fr))
    (hu : P.underlying ty = some d) (hd : (match d with | .struct _ | .array _ _ => true | _ => false) = true) (hi : (P.info? ty).map (·.size) = some cs.size) :
    (results fn tmps).run P w = .ok (.tuple #[.agg cs, tmps.getD u undef]) w := by
  have hp' : tmps[p]?.getD undef = .pointer (some ⟨g, 0, none⟩) := by simpa using hp
  simp [results, h, hp', asAddr, run_loadVar_row w g t ty cs fr d hg hu hd hi]
/-- 2 to 16384. -/
def limE : Nat := 512
def lim : Nat := 4294967296 ^ limE
theorem fits_gen (v k : Nat) : (digs 4294967296 v).length ≤ k ↔ v < 4294967296 ^ k := by
  constructor
  · intro h
    exact Nat.lt_of_lt_of_le (digs_lt (B := 4294967296) (by decide) v) (Nat.pow_le_pow_right (by decide) h)
  · exact fun h => digs_len_le (B := 4294967296) (by decide) h
theorem fits_iff (v : Nat) : (digs 4294967296 v).length ≤ 512 ↔ v < lim := by
  have h := fits_gen v limE
  unfold lim
  rw [← h]
  rfl
/-- What is in range, and the error. -/
def outV (x : Int) : Int := if x.natAbs < lim then x else 0
def outC (x : Int) : Int := if x.natAbs < lim then 0 else 4
theorem val_pi (x : Int) : val 4294967296 (digs 4294967296 x.natAbs) = x.natAbs := val_digs (by decide) _

set_option maxRecDepth 100000 in
set_option maxHeartbeats 1600000 in
theorem signed_any (neg : Bool) (l : List Nat) (A : Option Addr) (n c : Nat) (w : World) (hd : Dig 4294967296 l) (hl : LI .u32 w (.slice A n c) l) (hn : n ≤ 1000000) :
    Calls Tryz.prog 113 #[.bool neg, .slice A n c] w (RetP (sgn neg (val 4294967296 l)) w) := by
  obtain ⟨W, hW⟩ : ∃ W, w.alloc (.cells #[.bool false, .slice none 0 0] 33) = W := ⟨_, rfl⟩
  have HK := hJ (show Below w.heap.size w W by rw [← hW]; exact (Below.refl _ w).alloc (Nat.le_refl _) _)
  have HP := hJ (show P2 33 W w.heap.size (.bool false) (.slice none 0 0) by rw [← hW]; exact P2.lit _ _ _ _)
  have HT := hJ (trimmed_ok (fun _ => True) l A n c W hd (hl.new HK.out) hn)
  have HD := hJ hd
  clear hd hl
  have hp := HP.out
  obtain ⟨hc0, hc1⟩ := hp.cells
  have hf0 := hp.frozen 0
  have hf1 := hp.frozen 1
  clear hp
  go_enter Tryz.func113, Tryz.ntmps113
  go_wp2_with fail
  refine HT.out.mono ?_
  rintro e w' ⟨⟨k, rfl, hlk, hk, hkn, _⟩, rfl⟩
  have HLK := hJ hlk
  have HKK := hJ hk
  clear hlk hk hW
  rcases Nat.eq_zero_or_pos k with h0 | h0
  · have HV0 := hJ (show val 4294967296 l = 0 from (digs_nil (B := 4294967296) (by decide)).1 (List.eq_nil_of_length_eq_zero (by rw [HKK.out, h0])))
    subst h0
    go_wp2
    have hr := HP.out.all (.bool false) (.slice none 0 0)
    refine bodyPost_ret (results_cell_row rfl _ _ _ _ _ _ _ rfl hr Tryz.underlying33 rfl W_size) rfl ⟨false, none, 0, 0, rfl, ?_, below_box HK.out (Nat.le_refl _) _ _⟩
    rw [HV0.out, show sgn neg 0 = 0 by cases neg <;> rfl]
    exact PI.zero _
  · have hk0 : ((k : Int) == 0) = false := beq_eq_false_iff_ne.2 (by omega)
    have HVP := hJ (show 0 < val 4294967296 l by
      rcases Nat.eq_zero_or_pos (val 4294967296 l) with e | e
      · have := HKK.out; rw [e, digs_zero] at this; simp at this; omega
      · exact e)
    go_wp2
    have hr := HP.out.all (.bool neg) (.slice A k c)
    refine bodyPost_ret (results_cell_row rfl _ _ _ _ _ _ _ rfl hr Tryz.underlying33 rfl W_size) rfl ⟨neg, A, k, c, rfl, ⟨?_, ?_, ?_⟩, below_box HK.out (Nat.le_refl _) _ _⟩
    · rw [← sgn_neg, decide_eq_true HVP.out, Bool.and_true]
    · rw [sgn_abs]; exact HKK.out
    · rw [sgn_abs]; exact HLK.out.box HP.out rfl rfl _ _
set_option maxRecDepth 100000 in
set_option maxHeartbeats 1600000 in
theorem inRange_any (x : Int) (neg : Bool) (A : Option Addr) (n c : Nat) (w : World) (h : PI w neg A n c x) (hn : n ≤ 1000000) :
    Calls Tryz.prog 118 #[.agg #[.bool neg, .slice A n c]] w (RetPE (outV x) (outC x) w) := by
  obtain ⟨W, hW⟩ : ∃ W, (w.alloc (.cells #[.bool neg, .slice A n c] 33)).alloc (.cells #[.bool false, .slice none 0 0] 33) = W := ⟨_, rfl⟩
  have HK := hJ (show Below w.heap.size w W by rw [← hW]; exact W2_k _ _ _ _ _ _)
  have HA := hJ (show P2 33 W w.heap.size (.bool neg) (.slice A n c) by rw [← hW]; exact W2_a _ _ _ _ _ _)
  have HZ := hJ (show P2 33 W (w.heap.size + 1) (.bool false) (.slice none 0 0) by rw [← hW]; exact W2_z _ _ _ _ _ _)
  have HX := hJ (PIo.new h HK.out)
  have hnl := h.2.1
  obtain ⟨a0, a1⟩ := HA.out.cells
  obtain ⟨z0, z1⟩ := HZ.out.cells
  have f0 := HZ.out.frozen 0
  have f1 := HZ.out.frozen 1
  have HF := hJ (fits_iff x.natAbs)
  rw [hnl] at HF
  clear h hnl
  by_cases hle : n ≤ 512
  · have HLT := hJ (HF.out.1 hle)
    rw [show outV x = x from if_pos HLT.out, show outC x = 0 from if_pos HLT.out]
    have hgt : ¬ (512 : Int) < (n : Int) := by omega
    go_enter Tryz.func118, Tryz.ntmps118
    go_wp2
    have hr := HZ.out.all (.bool neg) (.slice A n c)
    refine bodyPost_ret (results_cell1 rfl _ _ _ _ _ _ _ rfl hr Tryz.underlying33 rfl W_size) rfl ⟨neg, A, n, c, rfl, HX.out.box HZ.out rfl rfl _ _, below_box HK.out (by omega) _ _⟩
  · have HLT := hJ (fun h => hle (HF.out.2 h))
    rw [show outV x = 0 from if_neg HLT.out, show outC x = 4 from if_neg HLT.out]
    have hgt : (512 : Int) < (n : Int) := by omega
    go_enter Tryz.func118, Tryz.ntmps118
    go_wp2
    have hr := HZ.out.all (.bool false) (.slice none 0 0)
    refine bodyPost_ret (results_cell1 rfl _ _ _ _ _ _ _ rfl hr Tryz.underlying33 rfl W_size) rfl ⟨false, none, 0, 0, rfl, PI.zero _, below_box HK.out (by omega) _ _⟩
end Go.Proofs.YtbhnaffbgggabaaGreat

namespace Go.Proofs.YtbhnaffbgggabaaGreat
open Go.RowKit
attribute [local go_sem ↓] Go.wp_at_zero Go.wp_at_succ

theorem RetP.stored {x : Int} {w w6 : World} {neg : Bool} {A : Option Addr} {n c B : Nat} {z0 z1 : Value} {t : TypeId} (h : PI w6 neg A n c x) (hp : P2 t w6 B z0 z1) (h0 : isI z0 = false) (h1 : isI z1 = false) (hb : Below w.heap.size w w6) (hB : w.heap.size ≤ B) (u0 u1 : Value) :
    RetP x w (.returned (.agg #[.bool neg, .slice A n c])) ((w6.setCell ⟨B, 0, none⟩ u0).setCell ⟨B, 1, none⟩ u1) :=
  ⟨neg, A, n, c, rfl, h.box hp h0 h1 u0 u1, below_box hb hB u0 u1⟩
theorem dig_two (m : Nat) (h : m < 18446744073709551616) : Dig 4294967296 [m % 4294967296, m / 4294967296] := dig_cons.2 ⟨by omega, dig_cons.2 ⟨by omega, dig_nil⟩⟩
theorem val_two (m : Nat) : val 4294967296 [m % 4294967296, m / 4294967296] = m := by simp [val]; omega
set_option maxRecDepth 100000 in
set_option maxHeartbeats 1600000 in
theorem from_any (x : Int) (w : World) (hx : (Lit.int .i64 x).wf = true) :
    Calls Tryz.prog 43 #[.int .i64 x] w (RetP x w) := by
  have hb : -9223372036854775808 ≤ x ∧ x ≤ 9223372036854775807 := by
    simpa [Lit.wf, IntKind.min, IntKind.max, IntKind.signed, IntKind.bits] using hx
  obtain ⟨hb1, hb2⟩ := hb
  clear hx
  obtain ⟨W, hW⟩ : ∃ W, w.alloc (.cells #[.bool false, .slice none 0 0] 33) = W := ⟨_, rfl⟩
  have HK := hJ (show Below w.heap.size w W by rw [← hW]; exact (Below.refl _ w).alloc (Nat.le_refl _) _)
  have HP := hJ (show P2 33 W w.heap.size (.bool false) (.slice none 0 0) by rw [← hW]; exact P2.lit _ _ _ _)
  obtain ⟨m, hm⟩ : ∃ m, x.natAbs = m := ⟨_, rfl⟩
  have HM := hJ hm
  have hml : m < 18446744073709551616 := by omega
  have HWO := hJ (wordsOf_any m W hml)
  have HD2 := hJ (dig_two m hml)
  have HV2 := hJ (val_two m)
  by_cases hneg : x < 0
  · have HS := hJ (show sgn true m = x by unfold sgn; simp; omega)
    have e1 : IntKind.u64.wrap x = x + 18446744073709551616 := by rw [wu64]; omega
    have e2 : IntKind.u64.wrap (-(x + 18446744073709551616)) = (m : Int) := by rw [wu64]; omega
    clear hm hml
    go_enter Tryz.func43, Tryz.ntmps43
    go_wp2_with fail
    refine HWO.out.mono ?_
    rintro e w2 ⟨rfl, hblk, hb2⟩
    have HBK := hJ hblk
    have HB2 := hJ hb2
    clear hblk hb2 hW
    go_wp2_with fail
    refine (signed_any true _ _ 2 2 w2 HD2.out (HBK.out.li0 rfl (Nat.le_refl _)).weak (by decide)).mono ?_
    rw [HV2.out, HS.out]
    rintro e w6 ⟨neg6, A6, n6, c6, rfl, hr6, hb6⟩
    have hp := (HP.out.new HB2.out).new hb6
    obtain ⟨hc0, hc1⟩ := hp.cells
    have hf0 := hp.frozen 0
    have hf1 := hp.frozen 1
    have HPP := hJ hp
    have HR := hJ hr6
    have HB := hJ ((HK.out.trans (HB2.out.mono HK.out.size)).trans (hb6.mono (HK.out.trans (HB2.out.mono HK.out.size)).size))
    clear hp hr6 hb6
    go_wp2
    exact bodyPost_ret (results_cell_row rfl _ _ _ _ _ _ _ rfl (HPP.out.all (.bool neg6) (.slice A6 n6 c6)) Tryz.underlying33 rfl W_size) rfl (RetP.stored HR.out HPP.out rfl rfl HB.out (Nat.le_refl _) _ _)
  · have HS := hJ (show sgn false m = x by unfold sgn; simp; omega)
    have e1 : x = (m : Int) := by omega
    subst e1
    clear hm hml
    go_enter Tryz.func43, Tryz.ntmps43
    go_wp2_with fail
    refine HWO.out.mono ?_
    rintro e w2 ⟨rfl, hblk, hb2⟩
    have HBK := hJ hblk
    have HB2 := hJ hb2
    clear hblk hb2 hW
    go_wp2_with fail
    refine (signed_any false _ _ 2 2 w2 HD2.out (HBK.out.li0 rfl (Nat.le_refl _)).weak (by decide)).mono ?_
    rw [HV2.out, HS.out]
    rintro e w6 ⟨neg6, A6, n6, c6, rfl, hr6, hb6⟩
    have hp := (HP.out.new HB2.out).new hb6
    obtain ⟨hc0, hc1⟩ := hp.cells
    have hf0 := hp.frozen 0
    have hf1 := hp.frozen 1
    have HPP := hJ hp
    have HR := hJ hr6
    have HB := hJ ((HK.out.trans (HB2.out.mono HK.out.size)).trans (hb6.mono (HK.out.trans (HB2.out.mono HK.out.size)).size))
    clear hp hr6 hb6
    go_wp2
    exact bodyPost_ret (results_cell_row rfl _ _ _ _ _ _ _ rfl (HPP.out.all (.bool neg6) (.slice A6 n6 c6)) Tryz.underlying33 rfl W_size) rfl (RetP.stored HR.out HPP.out rfl rfl HB.out (Nat.le_refl _) _ _)

set_option maxRecDepth 100000 in
set_option maxHeartbeats 1600000 in
theorem pcompare_any (x y : Int) (neg neg' : Bool) (A A' : Option Addr) (n c n' c' : Nat) (w : World) (hx : PI w neg A n c x) (hy : PI w neg' A' n' c' y) (hn : n ≤ 900000) (hn' : n' ≤ 900000) :
    Calls Tryz.prog 115 #[.agg #[.bool neg, .slice A n c], .agg #[.bool neg', .slice A' n' c']] w fun e w' => e = .returned (.int .i64 (cmpI x y)) ∧ Below w.heap.size w w' := by
  have HSX := hJ hx.1
  have HSY := hJ hy.1
  have HLX := hJ hx.2.2
  have HLY := hJ hy.2.2
  clear hx hy
  have hb0 : ∀ o o' : Obj, Below w.heap.size w ((w.alloc o).alloc o') := fun o o' => ((Below.refl _ w).alloc (Nat.le_refl _) o).alloc (by simp) o'
  have HB := hJ hb0
  clear hb0
  cases neg <;> cases neg'
  · have HE := hJ (cmpI_pp (a := x) (b := y) (by have := HSX.out; simpa using this.symm) (by have := HSY.out; simpa using this.symm))
    go_enter Tryz.func115, Tryz.ntmps115
    go_wp2_with fail
    refine (compareWords_any x.natAbs y.natAbs A A' n n' c c' _ (HLX.out.new (HB.out _ _)) (HLY.out.new (HB.out _ _)) (by omega) (by omega)).mono ?_
    rintro e w' ⟨rfl, hb⟩
    have HB2 := hJ ((HB.out _ _).trans (hb.mono (HB.out _ _).size))
    clear hb
    go_wp2
    go_ret
    exact ⟨ret_int HE.out.symm, HB2.out⟩
  · have HE := hJ (cmpI_pn (a := x) (b := y) (by have := HSX.out; simpa using this.symm) (by have := HSY.out; simpa using this.symm))
    go_enter Tryz.func115, Tryz.ntmps115
    go_wp2_with fail
    go_ret
    exact ⟨ret_int HE.out.symm, HB.out _ _⟩
  · have HE := hJ (cmpI_np (a := x) (b := y) (by have := HSX.out; simpa using this.symm) (by have := HSY.out; simpa using this.symm))
    go_enter Tryz.func115, Tryz.ntmps115
    go_wp2_with fail
    go_ret
    exact ⟨ret_int HE.out.symm, HB.out _ _⟩
  · have HE := hJ (cmpI_nn (a := x) (b := y) (by have := HSX.out; simpa using this.symm) (by have := HSY.out; simpa using this.symm))
    go_enter Tryz.func115, Tryz.ntmps115
    go_wp2_with fail
    refine (compareWords_any y.natAbs x.natAbs A' A n' n c' c _ (HLY.out.new (HB.out _ _)) (HLX.out.new (HB.out _ _)) (by omega) (by omega)).mono ?_
    rintro e w' ⟨rfl, hb⟩
    have HB2 := hJ ((HB.out _ _).trans (hb.mono (HB.out _ _).size))
    clear hb
    go_wp2
    go_ret
    exact ⟨ret_int HE.out.symm, HB2.out⟩
set_option maxRecDepth 100000 in
set_option maxHeartbeats 1600000 in
theorem sign_any (x : Int) (neg : Bool) (A : Option Addr) (n c : Nat) (w : World) (hx : PI w neg A n c x) (hn : n ≤ 900000) :
    Calls Tryz.prog 98 #[.agg #[.bool neg, .slice A n c]] w fun e w' => e = .returned (.int .i64 (cmpI x 0)) ∧ Below w.heap.size w w' := by
  have hb0 := (Below.refl w.heap.size w).alloc (Nat.le_refl _) (.cells #[.bool neg, .slice A n c] 33)
  have HB := hJ hb0
  have HX := hJ (hx.new hb0)
  clear hx hb0
  go_enter Tryz.func98, Tryz.ntmps98
  go_wp2_with fail
  refine (pcompare_any x 0 neg false A none n c 0 0 _ HX.out (PI.zero _) (by omega) (by omega)).mono ?_
  rintro e w' ⟨rfl, hb⟩
  have HB2 := hJ (HB.out.trans (hb.mono HB.out.size))
  clear hb
  go_wp2
  go_ret
  exact ⟨rfl, HB2.out⟩
set_option maxRecDepth 100000 in
set_option maxHeartbeats 1600000 in
theorem pneg_any (x : Int) (neg : Bool) (A : Option Addr) (n c : Nat) (w : World) (hx : PI w neg A n c x) (hn : n ≤ 900000) :
    Calls Tryz.prog 100 #[.agg #[.bool neg, .slice A n c]] w (RetP (-x) w) := by
  have HS := hJ hx.1
  have HL := hJ hx.2.1
  have HK := hJ (W2_k 33 w (.bool neg) (.slice A n c) (.bool false) (.slice none 0 0)).drew
  have HA := hJ (show P2 33 (W2 33 w (.bool neg) (.slice A n c) (.bool false) (.slice none 0 0)).drew w.heap.size (.bool neg) (.slice A n c) from W2_a _ _ _ _ _ _)
  have HZ := hJ (show P2 33 (W2 33 w (.bool neg) (.slice A n c) (.bool false) (.slice none 0 0)).drew (w.heap.size + 1) (.bool false) (.slice none 0 0) from W2_z _ _ _ _ _ _)
  have HX := hJ (hx.2.2.new HK.out)
  have HSG := hJ (show sgn (!neg) x.natAbs = -x by rw [hx.1]; exact sgn_not x)
  clear hx
  go_enter Tryz.func100, Tryz.ntmps100
  go_wp2_with fail
  go_region_held3 (fun w' => w'.cell? ⟨w.heap.size, 0, none⟩ = some (.bool neg) ∧ w'.cell? ⟨w.heap.size, 1, none⟩ = some (.slice A n c)) (first | assumption | exact HA.out.cells | exact (hA6.out.far2 (by omega) _ _).cells | go_keep)
    (first | (go_at_call 165; refine (copied_any _ A n c _ HX.out (by omega)).mono ?_; rintro e w5 ⟨rfl, hblk5, hb5⟩; have hS5 := (HA.out.new hb5).cells) | (go_at_call 113; refine (signed_any (!neg) _ _ n n _ (dig_digs (by decide) x.natAbs) (hblk5.li0 HL.out (Nat.le_refl _)).weak (by omega)).mono ?_; rw [val_pi, HSG.out]; rintro e w6 ⟨neg6, A6, n6, c6, rfl, hr6, hb6⟩; have hA6 := hJ ((HA.out.new hb5).new hb6); have hZ6 := hJ ((HZ.out.new hb5).new hb6); have hS6 := ((HA.out.new hb5).new hb6).cells; have hc60 := ((HZ.out.new hb5).new hb6).cells.1; have hc61 := ((HZ.out.new hb5).new hb6).cells.2; have hf60 := ((HZ.out.new hb5).new hb6).frozen 0; have hf61 := ((HZ.out.new hb5).new hb6).frozen 1))
  have HR := hJ hr6
  have HBB := hJ ((HK.out.trans (hb5.mono HK.out.size)).trans (hb6.mono (HK.out.trans (hb5.mono HK.out.size)).size))
  clear hr6 hb5 hb6 hS5 hS6 hblk5
  go_wp2
  exact bodyPost_ret (results_cell_row rfl _ _ _ _ _ _ _ rfl (hZ6.out.all (.bool neg6) (.slice A6 n6 c6)) Tryz.underlying33 rfl W_size) rfl (RetP.stored HR.out hZ6.out rfl rfl HBB.out (by omega) _ _)
end Go.Proofs.YtbhnaffbgggabaaGreat

namespace Go.Proofs.YtbhnaffbgggabaaGreat
open Go.RowKit
attribute [local go_sem ↓] Go.wp_at_zero Go.wp_at_succ

def isSm (x : Int) : Bool := decide (-9223372036854775808 ≤ x ∧ x ≤ 9223372036854775807)
def smV (x : Int) : Int := if isSm x = true then x else 0
/-- What Small returns. -/
def RetS (x : Int) (w : World) (e : Ending) (w' : World) : Prop := e = .returned (.tuple #[.int .i64 (smV x), .bool (isSm x)]) ∧ Below w.heap.size w w'
theorem val_len2 {l : List Nat} (h : l.length ≤ 2) : l.getD 0 0 + 4294967296 * l.getD 1 0 = val 4294967296 l := by
  match l, h with
  | [], _ => rfl
  | [a], _ => simp [val]
  | [a, b], _ => simp [val]
set_option maxRecDepth 100000 in
set_option maxHeartbeats 1600000 in
theorem psmall_any (x : Int) (neg : Bool) (A : Option Addr) (n c : Nat) (w : World) (hx : PI w neg A n c x) (hn : n ≤ 900000) :
    Calls Tryz.prog 77 #[.agg #[.bool neg, .slice A n c]] w (RetS x w) := by
  have hb0 := (Below.refl w.heap.size w).alloc (Nat.le_refl _) (.cells #[.bool neg, .slice A n c] 33)
  have HB := hJ hb0
  have HX := hJ (hx.2.2.new hb0)
  have HS := hJ hx.1
  have hl := hx.2.1
  have HL := hJ hl
  have hge := digs_ge (B := 4294967296) (n := x.natAbs) (by decide)
  rw [hl] at hge
  clear hx hb0 hl
  by_cases h2 : 2 < n
  · have hsm : isSm x = false := by
      unfold isSm
      rw [decide_eq_false_iff_not]
      intro h
      have h1 : x.natAbs ≠ 0 := by
        intro h0
        have := HL.out
        rw [h0, digs_zero, List.length_nil] at this
        omega
      have h3 := hge h1
      have h4 := Nat.pow_le_pow_right (show 0 < 4294967296 by decide) (show 2 ≤ n - 1 by omega)
      have e : (4294967296 : Nat) ^ 2 = 18446744073709551616 := by decide
      omega
    have hsv : smV x = 0 := by unfold smV; rw [hsm]; rfl
    have HE := hJ (And.intro hsm hsv)
    clear hsm hsv hge
    go_enter Tryz.func77, Tryz.ntmps77
    go_wp2
    go_ret2
    exact ⟨by rw [HE.out.1, HE.out.2]; rfl, HB.out⟩
  · have HLO := hJ (lowest_any _ A n c _ (dig_digs (by decide) x.natAbs) HX.out (by omega))
    rw [val_len2 (by rw [HL.out]; omega), val_pi] at HLO
    clear hge
    obtain ⟨m, hm⟩ : ∃ m : Int, ((x.natAbs : Nat) : Int) = m := ⟨_, rfl⟩
    rw [hm] at HLO
    have hm0 : 0 ≤ m := by omega
    have hml : m < 18446744073709551616 := by
      have h1 := digs_lt (B := 4294967296) (by decide) x.natAbs
      rw [HL.out] at h1
      have h4 := Nat.pow_le_pow_right (show 0 < 4294967296 by decide) (show n ≤ 2 by omega)
      have e : (4294967296 : Nat) ^ 2 = 18446744073709551616 := by decide
      omega
    cases neg
    · have hx0 : ¬ x < 0 := by have := HS.out; simpa using this.symm
      have hxm : x = m := by omega
      by_cases hle : m ≤ 9223372036854775807
      · have HE := hJ (show isSm x = true ∧ smV x = m by
          have h : isSm x = true := by unfold isSm; exact decide_eq_true (by omega)
          exact ⟨h, by unfold smV; rw [if_pos h, hxm]⟩)
        clear hm hxm hx0
        go_enter Tryz.func77, Tryz.ntmps77
        go_wp2_with fail
        refine HLO.out.mono ?_
        rintro e w' ⟨rfl, rfl⟩
        go_wp2
        go_ret2
        exact ⟨by rw [HE.out.1, HE.out.2]; rfl, HB.out⟩
      · have HE := hJ (show isSm x = false ∧ smV x = 0 by
          have h : isSm x = false := by unfold isSm; exact decide_eq_false (by omega)
          exact ⟨h, by unfold smV; rw [h]; rfl⟩)
        clear hm hxm hx0
        go_enter Tryz.func77, Tryz.ntmps77
        go_wp2_with fail
        refine HLO.out.mono ?_
        rintro e w' ⟨rfl, rfl⟩
        go_wp2
        go_ret2
        exact ⟨by rw [HE.out.1, HE.out.2]; rfl, HB.out⟩
    · have hx0 : x < 0 := by have := HS.out; simpa using this.symm
      have hxm : x = -m := by omega
      by_cases hle : m ≤ 9223372036854775808
      · have HE := hJ (show isSm x = true ∧ smV x = -m by
          have h : isSm x = true := by unfold isSm; exact decide_eq_true (by omega)
          exact ⟨h, by unfold smV; rw [if_pos h, hxm]⟩)
        by_cases hmx : m = 9223372036854775808
        · subst hmx
          clear hm hxm hx0
          go_enter Tryz.func77, Tryz.ntmps77
          go_wp2_with fail
          refine HLO.out.mono ?_
          rintro e w' ⟨rfl, rfl⟩
          go_wp2
          go_ret2
          exact ⟨by
            rw [HE.out.1, HE.out.2]
            show Ending.returned (.tuple #[.int .i64 (wrap64 (-wrap64 9223372036854775808)), .bool true]) = _
            rw [show wrap64 (-wrap64 9223372036854775808) = -9223372036854775808 by unfold wrap64; omega], HB.out⟩
        · have hml2 : m ≤ 9223372036854775807 := by omega
          clear hm hxm hx0 hmx
          go_enter Tryz.func77, Tryz.ntmps77
          go_wp2_with fail
          refine HLO.out.mono ?_
          rintro e w' ⟨rfl, rfl⟩
          go_wp2
          go_ret2
          exact ⟨by rw [HE.out.1, HE.out.2]; rfl, HB.out⟩
      · have HE := hJ (show isSm x = false ∧ smV x = 0 by
          have h : isSm x = false := by unfold isSm; exact decide_eq_false (by omega)
          exact ⟨h, by unfold smV; rw [h]; rfl⟩)
        clear hm hxm hx0
        go_enter Tryz.func77, Tryz.ntmps77
        go_wp2_with fail
        refine HLO.out.mono ?_
        rintro e w' ⟨rfl, rfl⟩
        go_wp2
        go_ret2
        exact ⟨by rw [HE.out.1, HE.out.2]; rfl, HB.out⟩
end Go.Proofs.YtbhnaffbgggabaaGreat

namespace Go.Proofs.YtbhnaffbgggabaaGreat
open Go.RowKit
attribute [local go_sem ↓] Go.wp_at_zero Go.wp_at_succ

theorem RetPE.stored {x code : Int} {w w6 : World} {neg : Bool} {A : Option Addr} {n c B : Nat} {z0 z1 : Value} {t : TypeId} (h : PI w6 neg A n c x) (hp : P2 t w6 B z0 z1) (h0 : isI z0 = false) (h1 : isI z1 = false) (hb : Below w.heap.size w w6) (hB : w.heap.size ≤ B) (u0 u1 : Value) :
    RetPE x code w (.returned (.tuple #[.agg #[.bool neg, .slice A n c], .int .i64 code])) ((w6.setCell ⟨B, 0, none⟩ u0).setCell ⟨B, 1, none⟩ u1) :=
  ⟨neg, A, n, c, rfl, h.box hp h0 h1 u0 u1, below_box hb hB u0 u1⟩
theorem in_lim {x : Int} (h : x.natAbs < lim) : outV x = x ∧ outC x = 0 := ⟨if_pos h, if_pos h⟩
theorem len_of {w : World} {neg : Bool} {A : Option Addr} {n c k : Nat} {s : Bool} {o : List Nat} {z : Int} (h : PI w neg A n c z) (hz : sgn s (val 4294967296 o) = z) (hd : Dig 4294967296 o) (hl : o.length = k) (hk : k ≤ 1000000) : n ≤ 1000000 := by
  have := h.2.1
  rw [← hz, sgn_abs] at this
  have := digs_len9 (B := 4294967296) (by decide) hd
  omega
set_option maxRecDepth 100000 in
set_option maxHeartbeats 1600000 in
theorem pmul_any (x y : Int) (s s' : Bool) (A A' : Option Addr) (n c n' c' : Nat) (w : World) (hx : PI w s A n c x) (hy : PI w s' A' n' c' y) (hn : n ≤ 300000) (hn' : n' ≤ 300000) :
    Calls Tryz.prog 80 #[.agg #[.bool s, .slice A n c], .agg #[.bool s', .slice A' n' c']] w (RetPE (outV (x * y)) (outC (x * y)) w) := by
  have HSX := hJ hx.1
  have HSY := hJ hy.1
  have HNX := hJ hx.2.1
  have HNY := hJ hy.2.1
  have HLX := hJ hx.2.2
  have HLY := hJ hy.2.2
  clear hx hy
  have HK := hJ (show Below w.heap.size w (W3 33 w (.bool s) (.slice A n c) (.bool s') (.slice A' n' c') (.bool false) (.slice none 0 0)).drew from (W3_k 33 w (.bool s) (.slice A n c) (.bool s') (.slice A' n' c') (.bool false) (.slice none 0 0)).drew)
  have HA := hJ (show P2 33 (W3 33 w (.bool s) (.slice A n c) (.bool s') (.slice A' n' c') (.bool false) (.slice none 0 0)).drew w.heap.size (.bool s) (.slice A n c) from (W3_a 33 w (.bool s) (.slice A n c) (.bool s') (.slice A' n' c') (.bool false) (.slice none 0 0)))
  have HB := hJ (show P2 33 (W3 33 w (.bool s) (.slice A n c) (.bool s') (.slice A' n' c') (.bool false) (.slice none 0 0)).drew (w.heap.size + 1) (.bool s') (.slice A' n' c') from (W3_b 33 w (.bool s) (.slice A n c) (.bool s') (.slice A' n' c') (.bool false) (.slice none 0 0)))
  have HZ := hJ (show P2 33 (W3 33 w (.bool s) (.slice A n c) (.bool s') (.slice A' n' c') (.bool false) (.slice none 0 0)).drew (w.heap.size + 1 + 1) (.bool false) (.slice none 0 0) from (W3_z 33 w (.bool s) (.slice A n c) (.bool s') (.slice A' n' c') (.bool false) (.slice none 0 0)))
  go_enter Tryz.func80, Tryz.ntmps80
  go_wp2_with fail
  go_region_held3 (fun w' => w'.cell? ⟨w.heap.size, 0, none⟩ = some (.bool s) ∧ w'.cell? ⟨w.heap.size, 1, none⟩ = some (.slice A n c) ∧ w'.cell? ⟨w.heap.size + 1, 0, none⟩ = some (.bool s') ∧ w'.cell? ⟨w.heap.size + 1, 1, none⟩ = some (.slice A' n' c')) (first | assumption | exact cells4 HA.out HB.out | exact cells4 (hA7.out.far2 (by omega) _ _) (hB7.out.far2 (by omega) _ _) | go_keep)
    (first | (go_at_call 148; refine (product_any _ _ A A' n n' c c' _ (dig_digs (by decide) x.natAbs) (dig_digs (by decide) y.natAbs) (HLX.out.new HK.out) (HLY.out.new HK.out) (by omega) (by omega)).mono ?_; rintro e w5 ⟨G5, n5, o5, rfl, hg5, hblk5, hol5, hod5, ⟨hov5, hon5⟩, hb5⟩; have hA5 := hJ (HA.out.new hb5); have hB5 := hJ (HB.out.new hb5); have hZ5 := hJ (HZ.out.new hb5); have hS5 := cells4 hA5.out hB5.out; have HVV := hJ (show sgn (s != s') (val 4294967296 o5) = x * y from (by rw [hov5, val_pi, val_pi]; exact mul_sign HSX.out HSY.out)); have hn5 : n5 ≤ 1000000 := (by omega); have HBK5 := hJ hblk5; have HOL5 := hJ hol5; have HOD5 := hJ hod5; clear hov5 hon5 hol5 hblk5 hod5) | (go_at_call 113; refine (signed_any (s != s') o5 _ n5 n5 _ HOD5.out (HBK5.out.li0 HOL5.out (Nat.le_refl _)).weak hn5).mono ?_; rw [HVV.out]; rintro e w6 ⟨neg6, A6, n6, c6, rfl, hr6, hb6⟩; have hA6 := hJ (hA5.out.new hb6); have hB6 := hJ (hB5.out.new hb6); have hZ6 := hJ (hZ5.out.new hb6); have hS6 := cells4 hA6.out hB6.out; have HR6 := hJ hr6; clear hr6) | (go_at_call 118; refine (inRange_any _ neg6 A6 n6 c6 _ HR6.out (len_of HR6.out HVV.out HOD5.out HOL5.out hn5)).mono ?_; rintro e w7 ⟨neg7, A7, n7, c7, rfl, hr7, hb7⟩; have hA7 := hJ (hA6.out.new hb7); have hB7 := hJ (hB6.out.new hb7); have hZ7 := hJ (hZ6.out.new hb7); have hS7 := cells4 hA7.out hB7.out; have hc70 := hZ7.out.cells.1; have hc71 := hZ7.out.cells.2; have hf70 := hZ7.out.frozen 0; have hf71 := hZ7.out.frozen 1; have HR7 := hJ hr7; clear hr7))
  have HBB := hJ (((HK.out.trans (hb5.mono HK.out.size)).trans (hb6.mono (HK.out.trans (hb5.mono HK.out.size)).size)).trans (hb7.mono ((HK.out.trans (hb5.mono HK.out.size)).trans (hb6.mono (HK.out.trans (hb5.mono HK.out.size)).size)).size))
  clear hb5 hb6 hb7 hS5 hS6 hS7
  go_wp2
  exact bodyPost_ret (results_cell1 rfl _ _ _ _ _ _ _ rfl (hZ7.out.all (.bool neg7) (.slice A7 n7 c7)) Tryz.underlying33 rfl W_size) rfl (RetPE.stored HR7.out hZ7.out rfl rfl HBB.out (by omega) _ _)
set_option maxRecDepth 100000 in
set_option maxHeartbeats 1600000 in
theorem padd_same (x y : Int) (s : Bool) (A A' : Option Addr) (n c n' c' : Nat) (w : World) (hx : PI w s A n c x) (hy : PI w s A' n' c' y) (hn : n ≤ 300000) (hn' : n' ≤ 300000) :
    Calls Tryz.prog 49 #[.agg #[.bool s, .slice A n c], .agg #[.bool s, .slice A' n' c']] w (RetPE (outV (x + y)) (outC (x + y)) w) := by
  have HSX := hJ hx.1
  have HSY := hJ hy.1
  have HNX := hJ hx.2.1
  have HNY := hJ hy.2.1
  have HLX := hJ hx.2.2
  have HLY := hJ hy.2.2
  clear hx hy
  have HK := hJ (show Below w.heap.size w (W3 33 w (.bool s) (.slice A n c) (.bool s) (.slice A' n' c') (.bool false) (.slice none 0 0)).drew from (W3_k 33 w (.bool s) (.slice A n c) (.bool s) (.slice A' n' c') (.bool false) (.slice none 0 0)).drew)
  have HA := hJ (show P2 33 (W3 33 w (.bool s) (.slice A n c) (.bool s) (.slice A' n' c') (.bool false) (.slice none 0 0)).drew w.heap.size (.bool s) (.slice A n c) from (W3_a 33 w (.bool s) (.slice A n c) (.bool s) (.slice A' n' c') (.bool false) (.slice none 0 0)))
  have HB := hJ (show P2 33 (W3 33 w (.bool s) (.slice A n c) (.bool s) (.slice A' n' c') (.bool false) (.slice none 0 0)).drew (w.heap.size + 1) (.bool s) (.slice A' n' c') from (W3_b 33 w (.bool s) (.slice A n c) (.bool s) (.slice A' n' c') (.bool false) (.slice none 0 0)))
  have HZ := hJ (show P2 33 (W3 33 w (.bool s) (.slice A n c) (.bool s) (.slice A' n' c') (.bool false) (.slice none 0 0)).drew (w.heap.size + 1 + 1) (.bool false) (.slice none 0 0) from (W3_z 33 w (.bool s) (.slice A n c) (.bool s) (.slice A' n' c') (.bool false) (.slice none 0 0)))
  go_enter Tryz.func49, Tryz.ntmps49
  go_wp2_with fail
  go_region_held3 (fun w' => w'.cell? ⟨w.heap.size, 0, none⟩ = some (.bool s) ∧ w'.cell? ⟨w.heap.size, 1, none⟩ = some (.slice A n c) ∧ w'.cell? ⟨w.heap.size + 1, 0, none⟩ = some (.bool s) ∧ w'.cell? ⟨w.heap.size + 1, 1, none⟩ = some (.slice A' n' c')) (first | assumption | exact cells4 HA.out HB.out | exact cells4 (hA7.out.far2 (by omega) _ _) (hB7.out.far2 (by omega) _ _) | go_keep)
    (first | (go_at_call 119; refine (sum_any _ _ A A' n n' c c' _ (dig_digs (by decide) x.natAbs) (dig_digs (by decide) y.natAbs) (HLX.out.new HK.out) (HLY.out.new HK.out) (by omega) (by omega)).mono ?_; rintro e w5 ⟨G5, n5, o5, rfl, hg5, hblk5, hol5, hod5, ⟨hov5, hon5⟩, hb5⟩; have hA5 := hJ (HA.out.new hb5); have hB5 := hJ (HB.out.new hb5); have hZ5 := hJ (HZ.out.new hb5); have hS5 := cells4 hA5.out hB5.out; have HVV := hJ (show sgn s (val 4294967296 o5) = x + y from (by rw [hov5, val_pi, val_pi]; exact add_same HSX.out HSY.out)); have hn5 : n5 ≤ 1000000 := (by omega); have HBK5 := hJ hblk5; have HOL5 := hJ hol5; have HOD5 := hJ hod5; clear hov5 hon5 hol5 hblk5 hod5) | (go_at_call 113; refine (signed_any s o5 _ n5 n5 _ HOD5.out (HBK5.out.li0 HOL5.out (Nat.le_refl _)).weak hn5).mono ?_; rw [HVV.out]; rintro e w6 ⟨neg6, A6, n6, c6, rfl, hr6, hb6⟩; have hA6 := hJ (hA5.out.new hb6); have hB6 := hJ (hB5.out.new hb6); have hZ6 := hJ (hZ5.out.new hb6); have hS6 := cells4 hA6.out hB6.out; have HR6 := hJ hr6; clear hr6) | (go_at_call 118; refine (inRange_any _ neg6 A6 n6 c6 _ HR6.out (len_of HR6.out HVV.out HOD5.out HOL5.out hn5)).mono ?_; rintro e w7 ⟨neg7, A7, n7, c7, rfl, hr7, hb7⟩; have hA7 := hJ (hA6.out.new hb7); have hB7 := hJ (hB6.out.new hb7); have hZ7 := hJ (hZ6.out.new hb7); have hS7 := cells4 hA7.out hB7.out; have hc70 := hZ7.out.cells.1; have hc71 := hZ7.out.cells.2; have hf70 := hZ7.out.frozen 0; have hf71 := hZ7.out.frozen 1; have HR7 := hJ hr7; clear hr7))
  have HBB := hJ (((HK.out.trans (hb5.mono HK.out.size)).trans (hb6.mono (HK.out.trans (hb5.mono HK.out.size)).size)).trans (hb7.mono ((HK.out.trans (hb5.mono HK.out.size)).trans (hb6.mono (HK.out.trans (hb5.mono HK.out.size)).size)).size))
  clear hb5 hb6 hb7 hS5 hS6 hS7
  go_wp2
  exact bodyPost_ret (results_cell1 rfl _ _ _ _ _ _ _ rfl (hZ7.out.all (.bool neg7) (.slice A7 n7 c7)) Tryz.underlying33 rfl W_size) rfl (RetPE.stored HR7.out hZ7.out rfl rfl HBB.out (by omega) _ _)
set_option maxRecDepth 100000 in
set_option maxHeartbeats 1600000 in
theorem padd_lt (x y : Int) (s s' : Bool) (A A' : Option Addr) (n c n' c' : Nat) (w : World) (hx : PI w s A n c x) (hy : PI w s' A' n' c' y) (hn : n ≤ 300000) (hn' : n' ≤ 300000) (_hfx : x.natAbs < lim) (_hfy : y.natAbs < lim) (hne : s ≠ s') (hlt : x.natAbs < y.natAbs) :
    Calls Tryz.prog 49 #[.agg #[.bool s, .slice A n c], .agg #[.bool s', .slice A' n' c']] w (RetPE (outV (x + y)) (outC (x + y)) w) := by
  have HSX := hJ hx.1
  have HSY := hJ hy.1
  have HNX := hJ hx.2.1
  have HNY := hJ hy.2.1
  have HLX := hJ hx.2.2
  have HLY := hJ hy.2.2
  clear hx hy
  have HK := hJ (show Below w.heap.size w (W3 33 w (.bool s) (.slice A n c) (.bool s') (.slice A' n' c') (.bool false) (.slice none 0 0)) from (W3_k 33 w (.bool s) (.slice A n c) (.bool s') (.slice A' n' c') (.bool false) (.slice none 0 0)))
  have HA := hJ (show P2 33 (W3 33 w (.bool s) (.slice A n c) (.bool s') (.slice A' n' c') (.bool false) (.slice none 0 0)) w.heap.size (.bool s) (.slice A n c) from (W3_a 33 w (.bool s) (.slice A n c) (.bool s') (.slice A' n' c') (.bool false) (.slice none 0 0)))
  have HB := hJ (show P2 33 (W3 33 w (.bool s) (.slice A n c) (.bool s') (.slice A' n' c') (.bool false) (.slice none 0 0)) (w.heap.size + 1) (.bool s') (.slice A' n' c') from (W3_b 33 w (.bool s) (.slice A n c) (.bool s') (.slice A' n' c') (.bool false) (.slice none 0 0)))
  have HZ := hJ (show P2 33 (W3 33 w (.bool s) (.slice A n c) (.bool s') (.slice A' n' c') (.bool false) (.slice none 0 0)) (w.heap.size + 1 + 1) (.bool false) (.slice none 0 0) from (W3_z 33 w (.bool s) (.slice A n c) (.bool s') (.slice A' n' c') (.bool false) (.slice none 0 0)))
  have hsb : (s == s') = false := beq_eq_false_iff_ne.2 hne
  obtain ⟨v, hv⟩ : ∃ v, cmpN x.natAbs y.natAbs = v := ⟨_, rfl⟩
  have hv0 : v < 0 := by rw [← hv, cmpN_lt hlt]; decide
  have HV := hJ hv
  have HSUM := hJ (add_lt HSX.out HSY.out hne (Nat.le_of_lt hlt))
  have HLIM := hJ (in_lim (x := x + y) (by
    rw [← HSUM.out, sgn_abs]
    omega))
  clear hv
  go_enter Tryz.func49, Tryz.ntmps49
  go_wp2_with fail
  refine (compareWords_any x.natAbs y.natAbs A A' n n' c c' (W3 33 w (.bool s) (.slice A n c) (.bool s') (.slice A' n' c') (.bool false) (.slice none 0 0)) (HLX.out.new HK.out) (HLY.out.new HK.out) (by omega) (by omega)).mono ?_
  rintro e w4 ⟨rfl, hb4⟩
  rw [HV.out]
  have HK4 := hJ (show Below w.heap.size w w4.drew from (HK.out.trans (hb4.mono HK.out.size)).drew)
  have HA4 := hJ (show P2 33 w4.drew w.heap.size (.bool s) (.slice A n c) from HA.out.new hb4.drew)
  have HB4 := hJ (show P2 33 w4.drew (w.heap.size + 1) (.bool s') (.slice A' n' c') from HB.out.new hb4.drew)
  have HZ4 := hJ (show P2 33 w4.drew (w.heap.size + 1 + 1) (.bool false) (.slice none 0 0) from HZ.out.new hb4.drew)
  clear hb4
  go_wp2_with fail
  go_region_held3 (fun w' => w'.cell? ⟨w.heap.size, 0, none⟩ = some (.bool s) ∧ w'.cell? ⟨w.heap.size, 1, none⟩ = some (.slice A n c) ∧ w'.cell? ⟨w.heap.size + 1, 0, none⟩ = some (.bool s') ∧ w'.cell? ⟨w.heap.size + 1, 1, none⟩ = some (.slice A' n' c')) (first | assumption | exact cells4 HA4.out HB4.out | exact cells4 (hA6.out.far2 (by omega) _ _) (hB6.out.far2 (by omega) _ _) | go_keep)
    (first | (go_at_call 121; refine (difference_any _ _ A' A n' n c' c _ (dig_digs (by decide) y.natAbs) (dig_digs (by decide) x.natAbs) (HLY.out.new HK4.out) (HLX.out.new HK4.out) (by omega) (by omega) (by rw [val_pi, val_pi]; omega)).mono ?_; rintro e w5 ⟨G5, n5, o5, rfl, hg5, hblk5, hol5, hod5, ⟨hov5, hon5⟩, hb5⟩; have hA5 := hJ (HA4.out.new hb5); have hB5 := hJ (HB4.out.new hb5); have hZ5 := hJ (HZ4.out.new hb5); have hS5 := cells4 hA5.out hB5.out; have HVV := hJ (show sgn s' (val 4294967296 o5) = x + y from (by rw [hov5, val_pi, val_pi]; exact HSUM.out)); have hn5 : n5 ≤ 1000000 := (by omega); have HBK5 := hJ hblk5; have HOL5 := hJ hol5; have HOD5 := hJ hod5; clear hov5 hon5 hol5 hblk5 hod5) | (go_at_call 113; refine (signed_any s' o5 _ n5 n5 _ HOD5.out (HBK5.out.li0 HOL5.out (Nat.le_refl _)).weak hn5).mono ?_; rw [HVV.out]; rintro e w6 ⟨neg6, A6, n6, c6, rfl, hr6, hb6⟩; have hA6 := hJ (hA5.out.new hb6); have hB6 := hJ (hB5.out.new hb6); have hZ6 := hJ (hZ5.out.new hb6); have hS6 := cells4 hA6.out hB6.out; have HR6 := hJ hr6; clear hr6; have hc60 := hZ6.out.cells.1; have hc61 := hZ6.out.cells.2; have hf60 := hZ6.out.frozen 0; have hf61 := hZ6.out.frozen 1))
  have HBB := hJ ((HK4.out.trans (hb5.mono HK4.out.size)).trans (hb6.mono (HK4.out.trans (hb5.mono HK4.out.size)).size))
  clear hb5 hb6 hS5 hS6
  go_wp2
  rw [HLIM.out.1, HLIM.out.2]
  exact bodyPost_ret (results_cell1 rfl _ _ _ _ _ _ _ rfl (hZ6.out.all (.bool neg6) (.slice A6 n6 c6)) Tryz.underlying33 rfl W_size) rfl (RetPE.stored HR6.out hZ6.out rfl rfl HBB.out (by omega) _ _)
set_option maxRecDepth 100000 in
set_option maxHeartbeats 1600000 in
theorem padd_ge (x y : Int) (s s' : Bool) (A A' : Option Addr) (n c n' c' : Nat) (w : World) (hx : PI w s A n c x) (hy : PI w s' A' n' c' y) (hn : n ≤ 300000) (hn' : n' ≤ 300000) (_hfx : x.natAbs < lim) (_hfy : y.natAbs < lim) (hne : s ≠ s') (hge : y.natAbs ≤ x.natAbs) :
    Calls Tryz.prog 49 #[.agg #[.bool s, .slice A n c], .agg #[.bool s', .slice A' n' c']] w (RetPE (outV (x + y)) (outC (x + y)) w) := by
  have HSX := hJ hx.1
  have HSY := hJ hy.1
  have HNX := hJ hx.2.1
  have HNY := hJ hy.2.1
  have HLX := hJ hx.2.2
  have HLY := hJ hy.2.2
  clear hx hy
  have HK := hJ (show Below w.heap.size w (W3 33 w (.bool s) (.slice A n c) (.bool s') (.slice A' n' c') (.bool false) (.slice none 0 0)) from (W3_k 33 w (.bool s) (.slice A n c) (.bool s') (.slice A' n' c') (.bool false) (.slice none 0 0)))
  have HA := hJ (show P2 33 (W3 33 w (.bool s) (.slice A n c) (.bool s') (.slice A' n' c') (.bool false) (.slice none 0 0)) w.heap.size (.bool s) (.slice A n c) from (W3_a 33 w (.bool s) (.slice A n c) (.bool s') (.slice A' n' c') (.bool false) (.slice none 0 0)))
  have HB := hJ (show P2 33 (W3 33 w (.bool s) (.slice A n c) (.bool s') (.slice A' n' c') (.bool false) (.slice none 0 0)) (w.heap.size + 1) (.bool s') (.slice A' n' c') from (W3_b 33 w (.bool s) (.slice A n c) (.bool s') (.slice A' n' c') (.bool false) (.slice none 0 0)))
  have HZ := hJ (show P2 33 (W3 33 w (.bool s) (.slice A n c) (.bool s') (.slice A' n' c') (.bool false) (.slice none 0 0)) (w.heap.size + 1 + 1) (.bool false) (.slice none 0 0) from (W3_z 33 w (.bool s) (.slice A n c) (.bool s') (.slice A' n' c') (.bool false) (.slice none 0 0)))
  have hsb : (s == s') = false := beq_eq_false_iff_ne.2 hne
  obtain ⟨v, hv⟩ : ∃ v, cmpN x.natAbs y.natAbs = v := ⟨_, rfl⟩
  have hv0 : ¬ v < 0 := by rw [← hv, cmpN, if_neg (by omega)]; split <;> decide
  have HV := hJ hv
  have HSUM := hJ (add_gt HSX.out HSY.out hne hge)
  have HLIM := hJ (in_lim (x := x + y) (by
    rw [← HSUM.out, sgn_abs]
    omega))
  clear hv
  go_enter Tryz.func49, Tryz.ntmps49
  go_wp2_with fail
  refine (compareWords_any x.natAbs y.natAbs A A' n n' c c' (W3 33 w (.bool s) (.slice A n c) (.bool s') (.slice A' n' c') (.bool false) (.slice none 0 0)) (HLX.out.new HK.out) (HLY.out.new HK.out) (by omega) (by omega)).mono ?_
  rintro e w4 ⟨rfl, hb4⟩
  rw [HV.out]
  have HK4 := hJ (show Below w.heap.size w w4.drew from (HK.out.trans (hb4.mono HK.out.size)).drew)
  have HA4 := hJ (show P2 33 w4.drew w.heap.size (.bool s) (.slice A n c) from HA.out.new hb4.drew)
  have HB4 := hJ (show P2 33 w4.drew (w.heap.size + 1) (.bool s') (.slice A' n' c') from HB.out.new hb4.drew)
  have HZ4 := hJ (show P2 33 w4.drew (w.heap.size + 1 + 1) (.bool false) (.slice none 0 0) from HZ.out.new hb4.drew)
  clear hb4
  go_wp2_with fail
  go_region_held3 (fun w' => w'.cell? ⟨w.heap.size, 0, none⟩ = some (.bool s) ∧ w'.cell? ⟨w.heap.size, 1, none⟩ = some (.slice A n c) ∧ w'.cell? ⟨w.heap.size + 1, 0, none⟩ = some (.bool s') ∧ w'.cell? ⟨w.heap.size + 1, 1, none⟩ = some (.slice A' n' c')) (first | assumption | exact cells4 HA4.out HB4.out | exact cells4 (hA6.out.far2 (by omega) _ _) (hB6.out.far2 (by omega) _ _) | go_keep)
    (first | (go_at_call 121; refine (difference_any _ _ A A' n n' c c' _ (dig_digs (by decide) x.natAbs) (dig_digs (by decide) y.natAbs) (HLX.out.new HK4.out) (HLY.out.new HK4.out) (by omega) (by omega) (by rw [val_pi, val_pi]; omega)).mono ?_; rintro e w5 ⟨G5, n5, o5, rfl, hg5, hblk5, hol5, hod5, ⟨hov5, hon5⟩, hb5⟩; have hA5 := hJ (HA4.out.new hb5); have hB5 := hJ (HB4.out.new hb5); have hZ5 := hJ (HZ4.out.new hb5); have hS5 := cells4 hA5.out hB5.out; have HVV := hJ (show sgn s (val 4294967296 o5) = x + y from (by rw [hov5, val_pi, val_pi]; exact HSUM.out)); have hn5 : n5 ≤ 1000000 := (by omega); have HBK5 := hJ hblk5; have HOL5 := hJ hol5; have HOD5 := hJ hod5; clear hov5 hon5 hol5 hblk5 hod5) | (go_at_call 113; refine (signed_any s o5 _ n5 n5 _ HOD5.out (HBK5.out.li0 HOL5.out (Nat.le_refl _)).weak hn5).mono ?_; rw [HVV.out]; rintro e w6 ⟨neg6, A6, n6, c6, rfl, hr6, hb6⟩; have hA6 := hJ (hA5.out.new hb6); have hB6 := hJ (hB5.out.new hb6); have hZ6 := hJ (hZ5.out.new hb6); have hS6 := cells4 hA6.out hB6.out; have HR6 := hJ hr6; clear hr6; have hc60 := hZ6.out.cells.1; have hc61 := hZ6.out.cells.2; have hf60 := hZ6.out.frozen 0; have hf61 := hZ6.out.frozen 1))
  have HBB := hJ ((HK4.out.trans (hb5.mono HK4.out.size)).trans (hb6.mono (HK4.out.trans (hb5.mono HK4.out.size)).size))
  clear hb5 hb6 hS5 hS6
  go_wp2
  rw [HLIM.out.1, HLIM.out.2]
  exact bodyPost_ret (results_cell1 rfl _ _ _ _ _ _ _ rfl (hZ6.out.all (.bool neg6) (.slice A6 n6 c6)) Tryz.underlying33 rfl W_size) rfl (RetPE.stored HR6.out hZ6.out rfl rfl HBB.out (by omega) _ _)
theorem padd_any (x y : Int) (s s' : Bool) (A A' : Option Addr) (n c n' c' : Nat) (w : World) (hx : PI w s A n c x) (hy : PI w s' A' n' c' y) (hn : n ≤ 300000) (hn' : n' ≤ 300000) (hfx : x.natAbs < lim) (hfy : y.natAbs < lim) :
    Calls Tryz.prog 49 #[.agg #[.bool s, .slice A n c], .agg #[.bool s', .slice A' n' c']] w (RetPE (outV (x + y)) (outC (x + y)) w) := by
  by_cases h : s = s'
  · subst h
    exact padd_same x y s A A' n c n' c' w hx hy hn hn'
  · rcases Nat.lt_or_ge x.natAbs y.natAbs with h1 | h1
    · exact padd_lt x y s s' A A' n c n' c' w hx hy hn hn' hfx hfy h h1
    · exact padd_ge x y s s' A A' n c n' c' w hx hy hn hn' hfx hfy h h1
end Go.Proofs.YtbhnaffbgggabaaGreat

namespace Go.Proofs.YtbhnaffbgggabaaGreat
open Go.RowKit
attribute [local go_sem ↓] Go.wp_at_zero Go.wp_at_succ

end Go.Proofs.YtbhnaffbgggabaaGreat

namespace Go.Proofs.YtbhnaffbgggabaaGreat
open Go.RowKit
attribute [local go_sem ↓] Go.wp_at_zero Go.wp_at_succ

theorem results_cell3 {P : Program} {fn : Func} {p q u : Tmp} {ty ty' : TypeId} (h : fn.results = #[.cell p ty, .cell q ty', .tmp u]) (tmps : Array Value) (w : World) (g g' : Nat) (t t' : TypeId) (cs cs' : Array Value) (fr fr' : Nat × Nat) (d d' : TypeDesc)
    (hp : tmps.getD p undef = .pointer (some ⟨g, 0, none⟩)) (hq : tmps.getD q undef = .pointer (some ⟨g', 0, none⟩)) (hg : w.heap[g]? = some (.cells cs t fr)) (hg' : w.heap[g']? = some (.cells cs' t' fr'))
    (hu : P.underlying ty = some d) (hd : (match d with | .struct _ | .array _ _ => true | _ => false) = true) (hi : (P.info? ty).map (·.size) = some cs.size)
    (hu' : P.underlying ty' = some d') (hd' : (match d' with | .struct _ | .array _ _ => true | _ => false) = true) (hi' : (P.info? ty').map (·.size) = some cs'.size) :
    (results fn tmps).run P w = .ok (.tuple #[.agg cs, .agg cs', tmps.getD u undef]) w := by
  have hp' : tmps[p]?.getD undef = .pointer (some ⟨g, 0, none⟩) := by simpa using hp
  have hq' : tmps[q]?.getD undef = .pointer (some ⟨g', 0, none⟩) := by simpa using hq
  simp [results, h, hp', hq', asAddr, run_loadVar_row w g t ty cs fr d hg hu hd hi, run_loadVar_row w g' t' ty' cs' fr' d' hg' hu' hd' hi']
/-- What Div returns. -/
def RetP2 (x y code : Int) (w : World) (e : Ending) (w' : World) : Prop := ∃ s A n c s' A' n' c', e = .returned (.tuple #[.agg #[.bool s, .slice A n c], .agg #[.bool s', .slice A' n' c'], .int .i64 code]) ∧ PI w' s A n c x ∧ PI w' s' A' n' c' y ∧ Below w.heap.size w w'
theorem two_storedP {t : TypeId} {w0 w : World} {g g' : Nat} {z0 z1 : Value} {x y code : Int} {s s' : Bool} {A A' : Option Addr} {n c n' c' : Nat} (hq : P2 t w g z0 z1) (hr : P2 t w g' z0 z1) (h0 : isI z0 = false) (h1 : isI z1 = false) (hne : g ≠ g') (hx : PI w s A n c x) (hy : PI w s' A' n' c' y) (hb : Below w0.heap.size w0 w) (hg : w0.heap.size ≤ g) (hg' : w0.heap.size ≤ g') :
    P2 t (WQ w g g' (.bool s) (.slice A n c) (.bool s') (.slice A' n' c')) g (.bool s) (.slice A n c) ∧ P2 t (WQ w g g' (.bool s) (.slice A n c) (.bool s') (.slice A' n' c')) g' (.bool s') (.slice A' n' c') ∧
    RetP2 x y code w0 (.returned (.tuple #[.agg #[.bool s, .slice A n c], .agg #[.bool s', .slice A' n' c'], .int .i64 code])) (WQ w g g' (.bool s) (.slice A n c) (.bool s') (.slice A' n' c')) := by
  have hr' := hr.far2 (g := g) hne.symm (.bool s) (.slice A n c)
  exact ⟨(hq.all _ _).far2 hne _ _, hr'.all _ _, s, A, n, c, s', A', n', c', rfl, (hx.box hq h0 h1 _ _).box hr' h0 h1 _ _, (hy.box hq h0 h1 _ _).box hr' h0 h1 _ _, below_box (below_box hb hg _ _) hg' _ _⟩
theorem cmpI_zero {y : Int} (h : y ≠ 0) : (cmpI y 0 == 0) = false := by
  rw [beq_eq_false_iff_ne]
  unfold cmpI
  split <;> (try split) <;> omega

set_option maxRecDepth 100000 in
set_option maxHeartbeats 3200000 in
theorem pdiv_any (x y : Int) (s s' : Bool) (A A' : Option Addr) (n c n' c' : Nat) (w : World) (hx : PI w s A n c x) (hy : PI w s' A' n' c' y) (hn : n ≤ 100000) (hn' : n' ≤ 100000) (hy0 : y ≠ 0) :
    Calls Tryz.prog 166 #[.agg #[.bool s, .slice A n c], .agg #[.bool s', .slice A' n' c']] w (RetP2 (x / y) (x % y) 0 w) := by
  have HSX := hJ hx.1
  have HSY := hJ hy.1
  have HNX := hJ hx.2.1
  have HNY := hJ hy.2.1
  have HY0 := hJ (show 0 < y.natAbs by omega)
  have HYY := hJ hy0
  obtain ⟨W, hW⟩ : ∃ W, (((w.alloc (.cells #[.bool s, .slice A n c] 33)).alloc (.cells #[.bool s', .slice A' n' c'] 33)).alloc (.cells #[.bool false, .slice none 0 0] 33)).alloc (.cells #[.bool false, .slice none 0 0] 33) = W := ⟨_, rfl⟩
  obtain ⟨fa, fb, fq, fr, fk, fs⟩ := W4_facts _ _ _ _ _ _ _ _ _ hW
  have HLX := hJ (hx.2.2.new fk)
  have HY := hJ (hy.new fk)
  have HA := hJ fa
  have HB := hJ fb
  have HQ := hJ fq
  have HR := hJ fr
  have HK := hJ fk
  obtain ⟨cb0, cb1⟩ := fb.cells
  have hws : w.heap.size + 1 + 1 + 1 < W.heap.size := fr.lt
  clear hx hy hy0 fa fb fq fr fk fs
  go_enter Tryz.func166, Tryz.ntmps166
  go_wp2_with fail
  refine (sign_any y s' A' n' c' W HY.out (by omega)).mono ?_
  rintro e w1 ⟨rfl, hb1⟩
  obtain ⟨v, hv⟩ : ∃ v, cmpI y 0 = v := ⟨_, rfl⟩
  have hv0 : (v == 0) = false := by rw [← hv]; exact cmpI_zero HYY.out
  rw [hv]
  clear hv
  have HB1 := hJ hb1
  obtain ⟨ca10, ca11⟩ := (HA.out.new hb1).cells
  obtain ⟨cb10, cb11⟩ := (HB.out.new hb1).cells
  clear hb1 cb0 cb1 hW
  go_wp2_with fail
  refine (dividedp_any x.natAbs y.natAbs A A' n n' c c' w1 (HLX.out.new HB1.out) (HY.out.2.2.new HB1.out) (by omega) HY0.out).mono ?_
  rintro e w2 ⟨A1, n1, c1, A2, n2, c2, rfl, hl1, hn1, hl2, hn2, hb2⟩
  have HL1 := hJ hl1
  have HN1 := hJ hn1
  have HL2 := hJ hl2
  have HN2 := hJ hn2
  have HB2 := hJ (HB1.out.trans (hb2.mono HB1.out.size))
  have hn1b : n1 ≤ n := by rw [← hn1, ← HNX.out]; exact digs_len_mono (by decide) (Nat.div_le_self _ _)
  have hn2b : n2 ≤ n' := by rw [← hn2, ← HNY.out]; exact digs_len_mono (by decide) (Nat.le_of_lt (Nat.mod_lt _ HY0.out))
  obtain ⟨ca20, ca21⟩ := (HA.out.new HB2.out).cells
  obtain ⟨cb20, cb21⟩ := (HB.out.new HB2.out).cells
  clear hl1 hn1 hl2 hn2 hb2 ca10 ca11 cb10 cb11
  by_cases hcase : s = true ∧ 0 < n2
  · obtain ⟨rfl, hn20⟩ := hcase
    have HDV := hJ (div_b HSX.out HSY.out HYY.out rfl (by
      intro h0
      have := HN2.out
      rw [h0, digs_zero, List.length_nil] at this
      omega))
    have HQV := hJ (show sgn (!s') (x.natAbs / y.natAbs + 1) = x / y by
      rw [← HDV.out.1, show (!s') = (true != s') by cases s' <;> rfl]
      unfold sgn
      split <;> omega)
    have HLT := hJ (Nat.mod_lt x.natAbs HY0.out)
    have HDO := hJ (dig_cons.2 ⟨by decide, dig_nil⟩ : Dig 4294967296 [1])
    go_wp2_with fail
    have HL1' := hJ (HL1.out.drew)
    have HL2' := hJ (HL2.out.drew)
    have HK3 := hJ (show Below w2.heap.size w2 (w2.alloc (.cells #[.int .u32 1] 218)).drew from ((Below.refl _ w2).alloc (Nat.le_refl _) _).drew)
    have HLit := hJ (show LI .u32 (w2.alloc (.cells #[.int .u32 1] 218)).drew (.slice (some ⟨w2.heap.size, 0, none⟩) 1 1) [1] from (LI.own (l := [1]) (own_lit .u32 w2 218 [1])).drew)
    have HLE := hJ (show val 4294967296 (digs 4294967296 (x.natAbs % y.natAbs)) ≤ val 4294967296 (digs 4294967296 y.natAbs) by
      rw [val_digs (by decide), val_digs (by decide)]; exact Nat.le_of_lt HLT.out)
    go_region_held3 (fun w' => w'.cell? ⟨w.heap.size + 1, 1, none⟩ = some (.slice A' n' c')) (first | assumption | exact cb21 | exact ((HB.out.new HB2.out).new HK3.out).cells.2 | go_keep)
      (first | (go_at_call 119; refine (sum_any _ [1] A1 _ n1 1 c1 1 _ (dig_digs (by decide) (x.natAbs / y.natAbs)) HDO.out (HL1.out.new HK3.out) HLit.out (by omega) (by decide)).mono ?_; rintro e w5 ⟨G5, n5, o5, rfl, hg5, hblk5, hol5, hod5, ⟨hov5, hon5⟩, hb5⟩; have HB5 := hJ (HK3.out.trans (hb5.mono HK3.out.size)); have hB5 := hJ ((HB.out.new HB2.out).new HB5.out); have hS5 := hB5.out.cells.2; have hn5 : n5 ≤ 1000000 := (by omega); have HV5 := hJ hov5; have HBK5 := hJ hblk5; have HOL5 := hJ hol5; have HOD5 := hJ hod5; clear hov5 hon5 hol5 hblk5 hod5 hb5) | (go_at_call 121; refine (difference_any _ _ A' A2 n' n2 c' c2 _ (dig_digs (by decide) y.natAbs) (dig_digs (by decide) (x.natAbs % y.natAbs)) ((HY.out.2.2.new HB2.out).new HB5.out) (HL2.out.new HB5.out) (by omega) (by omega) HLE.out).mono ?_; rintro e w6 ⟨G6, n6, o6, rfl, hg6, hblk6, hol6, hod6, ⟨hov6, hon6⟩, hb6⟩; have hS6 := (hB5.out.new hb6).cells.2; have HB6 := hJ (HB2.out.trans ((HB5.out.trans (hb6.mono HB5.out.size)).mono HB2.out.size)); have hn6 : n6 ≤ 1000000 := (by omega); have HV6 := hJ hov6; have HL6 := hJ (hblk6.li0 hol6 (Nat.le_refl _)).weak; have HL5 := hJ ((HBK5.out.new hb6).li0 HOL5.out (Nat.le_refl _)).weak; have HOD6 := hJ hod6; clear hov6 hon6 hol6 hblk6 hod6 hb6))
    have HVQ := hJ (show sgn (!s') (val 4294967296 o5) = x / y by
      rw [HV5.out, val_digs (by decide)]; exact HQV.out)
    have HVR := hJ (show sgn false (val 4294967296 o6) = x % y by
      rw [HV6.out, val_digs (by decide), val_digs (by decide), sgn_false]; exact HDV.out.2)
    obtain ⟨ca60, ca61⟩ := (HA.out.new HB6.out).cells
    obtain ⟨cb60, cb61⟩ := (HB.out.new HB6.out).cells
    clear ca20 ca21 cb20 cb21 hS5 hS6
    go_wp2_with fail
    refine (signed_any (!s') _ _ n5 n5 w6 HOD5.out HL5.out (by omega)).mono ?_
    rw [HVQ.out]
    rintro e w7 ⟨s7, A7, n7, c7, rfl, hr7, hb7⟩
    have HR7 := hJ hr7
    have HB7 := hJ hb7
    clear hr7 hb7
    go_wp2_with fail
    refine (signed_any false _ _ n6 n6 w7 HOD6.out (LO.new HL6.out HB7.out) (by omega)).mono ?_
    rw [HVR.out]
    rintro e w8 ⟨s8, A8, n8, c8, rfl, hr8, hb8⟩
    have HB8 := hJ (HB6.out.trans ((HB7.out.trans (hb8.mono HB7.out.size)).mono HB6.out.size))
    have HZQ := hJ (HQ.out.new HB8.out)
    have HZR := hJ (HR.out.new HB8.out)
    obtain ⟨q0, q1⟩ := HZQ.out.cells
    obtain ⟨r0, r1⟩ := HZR.out.cells
    have fq0 := HZQ.out.frozen 0
    have fq1 := HZQ.out.frozen 1
    have fr0 := HZR.out.frozen 0
    have fr1 := HZR.out.frozen 1
    have HFIN := hJ (two_storedP (code := 0) HZQ.out HZR.out rfl rfl (by omega) (HR7.out.new hb8) hr8 (HK.out.trans (HB8.out.mono HK.out.size)) (by omega) (by omega))
    clear hr8 hb8
    go_wp2
    refine bodyPost_ret (results_cell3 rfl _ _ _ _ _ _ _ _ _ _ _ _ rfl rfl HFIN.out.1 HFIN.out.2.1 Tryz.underlying33 rfl W_size Tryz.underlying33 rfl W_size) rfl ?_
    exact HFIN.out.2.2
  · have HDV := hJ (div_a HSX.out HSY.out HYY.out (by
      have := HN2.out
      cases s
      · exact .inl rfl
      · have h0 : n2 = 0 := by
          rcases Nat.eq_zero_or_pos n2 with h | h
          · exact h
          · exact absurd ⟨rfl, h⟩ hcase
        rw [h0] at this
        exact .inr ((digs_nil (by decide)).1 (List.eq_nil_of_length_eq_zero this))))
    cases s
    · clear hcase
      have HSG := hJ (show sgn s' (x.natAbs / y.natAbs) = x / y by
        rw [← HDV.out.1, show (false != s') = s' by cases s' <;> rfl])
      go_wp2_with fail
      refine (signed_any s' _ A1 n1 c1 w2 (dig_digs (by decide) (x.natAbs / y.natAbs)) HL1.out (by omega)).mono ?_
      rw [val_digs (by decide), HSG.out]
      rintro e w7 ⟨s7, A7, n7, c7, rfl, hr7, hb7⟩
      have HR7 := hJ hr7
      have HB7 := hJ hb7
      clear hr7 hb7
      go_wp2_with fail
      refine (signed_any false _ A2 n2 c2 w7 (dig_digs (by decide) (x.natAbs % y.natAbs)) (LO.new HL2.out HB7.out) (by omega)).mono ?_
      rw [val_digs (by decide), sgn_false, HDV.out.2]
      rintro e w8 ⟨s8, A8, n8, c8, rfl, hr8, hb8⟩
      have HB8 := hJ (HB2.out.trans ((HB7.out.trans (hb8.mono HB7.out.size)).mono HB2.out.size))
      have HZQ := hJ (HQ.out.new HB8.out)
      have HZR := hJ (HR.out.new HB8.out)
      obtain ⟨q0, q1⟩ := HZQ.out.cells
      obtain ⟨r0, r1⟩ := HZR.out.cells
      have fq0 := HZQ.out.frozen 0
      have fq1 := HZQ.out.frozen 1
      have fr0 := HZR.out.frozen 0
      have fr1 := HZR.out.frozen 1
      have HFIN := hJ (two_storedP (code := 0) HZQ.out HZR.out rfl rfl (by omega) (HR7.out.new hb8) hr8 (HK.out.trans (HB8.out.mono HK.out.size)) (by omega) (by omega))
      clear hr8 hb8
      go_wp2
      refine bodyPost_ret (results_cell3 rfl _ _ _ _ _ _ _ _ _ _ _ _ rfl rfl HFIN.out.1 HFIN.out.2.1 Tryz.underlying33 rfl W_size Tryz.underlying33 rfl W_size) rfl ?_
      exact HFIN.out.2.2
    · have hn20 : ¬ 0 < n2 := fun h => hcase ⟨rfl, h⟩
      clear hcase
      have HSG := hJ (show sgn (!s') (x.natAbs / y.natAbs) = x / y by
        rw [← HDV.out.1, show (true != s') = !s' by cases s' <;> rfl])
      go_wp2_with fail
      refine (signed_any (!s') _ A1 n1 c1 w2 (dig_digs (by decide) (x.natAbs / y.natAbs)) HL1.out (by omega)).mono ?_
      rw [val_digs (by decide), HSG.out]
      rintro e w7 ⟨s7, A7, n7, c7, rfl, hr7, hb7⟩
      have HR7 := hJ hr7
      have HB7 := hJ hb7
      clear hr7 hb7
      go_wp2_with fail
      refine (signed_any false _ A2 n2 c2 w7 (dig_digs (by decide) (x.natAbs % y.natAbs)) (LO.new HL2.out HB7.out) (by omega)).mono ?_
      rw [val_digs (by decide), sgn_false, HDV.out.2]
      rintro e w8 ⟨s8, A8, n8, c8, rfl, hr8, hb8⟩
      have HB8 := hJ (HB2.out.trans ((HB7.out.trans (hb8.mono HB7.out.size)).mono HB2.out.size))
      have HZQ := hJ (HQ.out.new HB8.out)
      have HZR := hJ (HR.out.new HB8.out)
      obtain ⟨q0, q1⟩ := HZQ.out.cells
      obtain ⟨r0, r1⟩ := HZR.out.cells
      have fq0 := HZQ.out.frozen 0
      have fq1 := HZQ.out.frozen 1
      have fr0 := HZR.out.frozen 0
      have fr1 := HZR.out.frozen 1
      have HFIN := hJ (two_storedP (code := 0) HZQ.out HZR.out rfl rfl (by omega) (HR7.out.new hb8) hr8 (HK.out.trans (HB8.out.mono HK.out.size)) (by omega) (by omega))
      clear hr8 hb8
      go_wp2
      refine bodyPost_ret (results_cell3 rfl _ _ _ _ _ _ _ _ _ _ _ _ rfl rfl HFIN.out.1 HFIN.out.2.1 Tryz.underlying33 rfl W_size Tryz.underlying33 rfl W_size) rfl ?_
      exact HFIN.out.2.2
end Go.Proofs.YtbhnaffbgggabaaGreat

