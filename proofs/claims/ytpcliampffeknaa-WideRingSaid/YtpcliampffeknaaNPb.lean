/- The contract of the program's long division. -/
import Derived.Test.YtpcliampffeknaaNPa
import Derived.WalkMore
import Derived.Deep.LoopGhost
namespace Go.Proofs.Ytpcliampffeknaa
open Go.RowKit
attribute [local go_sem ↓] Go.wp_at_zero Go.wp_at_succ

/-- What a function returns that returns the words of two numbers. -/
def RetQW (q r : Nat) (w : World) (e : Ending) (w' : World) : Prop := ∃ A1 n1 c1 A2 n2 c2, e = .returned (.tuple #[.slice A1 n1 c1, .slice A2 n2 c2]) ∧ LI .u32 w' (.slice A1 n1 c1) (digs 4294967296 q) ∧ (digs 4294967296 q).length = n1 ∧ LI .u32 w' (.slice A2 n2 c2) (digs 4294967296 r) ∧ (digs 4294967296 r).length = n2 ∧ Below w.heap.size w w'
/-- s[j:h] of a block. -/
theorem Blk.cut {k : IntKind} {P : Program} {ty e : TypeId} {w : World} {g n c : Nat} {t : TypeId} {p s q : List Nat} (ht : P.underlying ty = some (.slice e)) (hs : ∀ W, (sizeOf e).run P W = .ok 1 W) (hb : Blk k w g t (p ++ (s ++ q))) (hn : (p ++ (s ++ q)).length = n) (hc : n ≤ c) {j m : Nat} (hj : p.length = j) (hm : s.length = m) (hm0 : 0 < m) (lo hi : Int) (hlo : lo = (j : Int)) (hhi : hi = ((j + m : Nat) : Int)) :
    (∀ W, (Instr.slice ty (.slice (some ⟨g, 0, none⟩) n c) (some (.int .i64 lo)) (some (.int .i64 hi)) none).run P W = .ok (.slice (some ⟨g, j, none⟩) m (c - j)) W) ∧ LO k (· = g) w (.slice (some ⟨g, j, none⟩) m (c - j)) s := by
  have he : P.elem ty = e := by simp [Program.elem, ht]
  have hl : j + m + q.length = n := by rw [← hn, List.length_append, List.length_append, hj, hm, Nat.add_assoc]
  subst hlo hhi
  refine ⟨fun W => ?_, ?_⟩
  · rw [run_slice_lh (ht := by rw [ht, he]) (h0 := by omega) (h1 := by omega) (h2 := by omega), he, hs W]
    simp only [Result.andThen, sliced, Int.toNat_natCast]
    rw [if_neg (by omega), Option.map_some, Go.WideShapes.add_plain, Nat.mul_one, Nat.zero_add, Nat.add_sub_cancel_left]
  · have := hb.li (off := j) (n := m) (c := c - j) (by rw [hn]; omega) (by omega)
    rwa [← hj, List.drop_left, ← hm, List.take_left, hj, hm] at this
theorem pow2_le {z : Nat} (h : z ≤ 31) : 2 ^ z < 4294967296 := by
  have := Nat.pow_le_pow_right (show 0 < 2 by decide) h
  have e : (2 : Nat) ^ 31 = 2147483648 := by decide
  omega

set_option maxRecDepth 100000 in
set_option maxHeartbeats 1600000 in
theorem divided_lt (x y : Nat) (A A' : Option Addr) (n n' c c' : Nat) (w : World) (hx : LI .u32 w (.slice A n c) (digs 4294967296 x)) (hy : LI .u32 w (.slice A' n' c') (digs 4294967296 y)) (hn : n ≤ 200000) (hlt : n < n') :
    Calls Try.prog 60 #[.slice A n c, .slice A' n' c'] w (RetQW (x / y) (x % y) w) := by
  have h1 := hx.len.1
  have hxy := digs_len_lt (B := 4294967296) (a := x) (b := y) (by decide) (by rw [hx.len.1, hy.len.1]; exact hlt)
  rw [Nat.div_eq_of_lt hxy, Nat.mod_eq_of_lt hxy]
  have HX := Lib.hid hx
  have HL := Lib.hid h1
  clear hx hy hxy h1
  go_enter Try.func60, Try.ntmps60
  go_wp2_with fail
  go_step3
  go_wp2_with fail
  refine (copied_any _ A n c w HX.out (by omega)).mono ?_
  rintro e w2 ⟨rfl, hb, hbel⟩
  have HB := Lib.hid hb
  clear hb
  go_wp2
  rw [Exit.noGoto_ret]
  go_ret2
  exact ⟨none, 0, 0, some ⟨w.heap.size, 0, none⟩, n, n, rfl, by rw [digs_zero]; exact LO.nil, by rw [digs_zero]; rfl, (HB.out.li0 HL.out (Nat.le_refl _)).weak, HL.out, hbel⟩

set_option maxRecDepth 100000 in
set_option maxHeartbeats 3200000 in
theorem divided_ge (x y : Nat) (A A' : Option Addr) (n m c c' : Nat) (w : World) (hx : LI .u32 w (.slice A n c) (digs 4294967296 x)) (hy : LI .u32 w (.slice A' (m + 1) c') (digs 4294967296 y)) (hn : n ≤ 200000) (hge : m + 1 ≤ n) :
    Calls Try.prog 60 #[.slice A n c, .slice A' (m + 1) c'] w (RetQW (x / y) (x % y) w) := by
  obtain ⟨i0, hi0, hz0, hz1, hz2⟩ := info_parts w32_info
  have HNX := Lib.hid hx.len.1
  have HNY := Lib.hid hy.len.1
  have HY0 := Lib.hid (show 0 < y by
    rcases Nat.eq_zero_or_pos y with e | e
    · have := hy.len.1; rw [e, digs_zero] at this; cases this
    · exact e)
  have HX := Lib.hid hx
  have HY := Lib.hid hy
  have HDX := Lib.hid (dig_digs (B := 4294967296) (by decide) x)
  have HDY := Lib.hid (dig_digs (B := 4294967296) (by decide) y)
  have HVX := Lib.hid (val_digs (B := 4294967296) (by decide) x)
  have HVY := Lib.hid (val_digs (B := 4294967296) (by decide) y)
  have HXL := Lib.hid (show x < 4294967296 ^ n by rw [← HNX.out]; exact digs_lt (by decide) x)
  have HYG := Lib.hid (show 4294967296 ^ m ≤ y by have := digs_ge (B := 4294967296) (n := y) (by decide) (by have := HY0.out; omega); rwa [HNY.out, Nat.add_sub_cancel] at this)
  have htop := digs_last (B := 4294967296) (n := y) (by decide) (by have := HY0.out; omega)
  rw [HNY.out, Nat.add_sub_cancel] at htop
  obtain ⟨b1, o1, rfl, hb1, hc1⟩ := hy.at_ (j := m) (by omega)
  have htl := dig_getD (B := 4294967296) (by decide) HDY.out m
  obtain ⟨t, ht⟩ : ∃ t, (digs 4294967296 y).getD m 0 = t := ⟨_, rfl⟩
  rw [ht] at htop htl hc1
  have HT := Lib.hid ht
  clear hx hy ht
  have s1 : (m : Int) + 1 ≤ (n : Int) := by omega
  go_enter Try.func60, Try.ntmps60
  go_wp2_with fail
  go_step3
  go_wp2_with fail
  refine (lz32_any t w (by omega) htl).mono ?_
  rintro e w' ⟨⟨z, rfl, hz31, hz⟩, rfl⟩
  obtain ⟨f, hf⟩ : ∃ f : Nat, 2 ^ z = f := ⟨_, rfl⟩
  have hf0 : 0 < f := by rw [← hf]; exact Nat.pow_pos (by decide)
  have hfl : f < 4294967296 := by rw [← hf]; exact pow2_le hz31
  rw [hf] at hz
  have HTF := Lib.hid hz
  have HF := Lib.hid hf
  clear hz
  have hsh : IntKind.u32.wrap (1 * 2 ^ z) = (f : Int) := by
    have e : (2 : Int) ^ z = ((2 ^ z : Nat) : Int) := by rw [Int.natCast_pow]; rfl
    rw [e, hf, Int.one_mul]
    exact IntWalk.u32_in _ (by omega)
  have hsh2 : IntKind.u32.wrap (2 ^ z) = (f : Int) := by rw [← hsh, Int.one_mul]
  clear hf
  go_wp2_with fail
  have HT1 := Lib.hid (times_any _ A n c f 0 w HDX.out HX.out (by omega) hfl (by decide))
  rw [show ((0 : Nat) : Int) = 0 from rfl] at HT1
  refine HT1.out.mono ?_
  rintro e w1 ⟨G1, N1, o1', rfl, hg1, hblk1, hol1, hod1, ⟨hov1, hon1⟩, hb1'⟩
  have HBK1 := Lib.hid hblk1
  have HOD1 := Lib.hid hod1
  have HOV1 := Lib.hid (show val 4294967296 o1' = x * f by rw [hov1, HVX.out, Nat.add_zero])
  have HB1 := Lib.hid hb1'
  have HG1 := Lib.hid hg1
  have hN1 : N1 = n + 1 := by omega
  subst hN1
  have HOL1 := Lib.hid hol1
  clear hblk1 hod1 hov1 hb1' hg1 hol1 hon1 HT1
  go_wp2_with fail
  have HT2 := Lib.hid (times_any _ _ (m + 1) c' f 0 w1 HDY.out (HY.out.new HB1.out) (by omega) hfl (by decide))
  rw [show ((0 : Nat) : Int) = 0 from rfl] at HT2
  refine HT2.out.mono ?_
  rintro e w2 ⟨G2, N2, o2', rfl, hg2, hblk2, hol2, hod2, ⟨hov2, hon2⟩, hb2'⟩
  have HBK2 := Lib.hid hblk2
  have HOD2 := Lib.hid hod2
  obtain ⟨V, hV⟩ : ∃ V, y * f = V := ⟨_, rfl⟩
  have HVV := Lib.hid hV
  have HOV2 := Lib.hid (show val 4294967296 o2' = V by rw [hov2, HVY.out, Nat.add_zero, hV])
  have HB2 := Lib.hid hb2'
  have HG2 := Lib.hid hg2
  have HBK12 := Lib.hid (HBK1.out.new hb2')
  have hN2 : N2 = m + 2 := by omega
  subst hN2
  have HOL2 := Lib.hid hol2
  have HVT := Lib.hid (show V < 4294967296 ^ (m + 1) by
    rw [← hV]
    exact times_top (by decide) HDY.out HNY.out HVY.out HT.out HTF.out hf0)
  have HVG := Lib.hid (show 4294967296 ^ m * f ≤ V by rw [← hV]; exact Nat.mul_le_mul_right f HYG.out)
  have HV0 := Lib.hid (show 0 < V by rw [← hV]; exact Nat.mul_pos HY0.out hf0)
  have HXF := Lib.hid (show x * f < 4294967296 ^ n * f from Nat.mul_lt_mul_of_pos_right HXL.out hf0)
  clear hblk2 hod2 hov2 hb2' hg2 hol2 hon2 HT2 hV
  go_wp2_with fail
  refine (trimmed_ok (· = G2) o2' _ (m + 2) (m + 2) w2 HOD2.out (HBK2.out.li0 HOL2.out (Nat.le_refl _)) (by omega)).mono ?_
  rw [HOV2.out]
  rintro e w' ⟨⟨k2, rfl, hl2, hk2, hk2le, htk2⟩, rfl⟩
  have HLV := Lib.hid (show (digs 4294967296 V).length = m + 1 by
    have h1 := digs_len_le (B := 4294967296) (by decide) HVT.out
    have h2 := digs_lt (B := 4294967296) (by decide) V
    rcases Nat.lt_or_ge (digs 4294967296 V).length (m + 1) with h | h
    · have h3 := Nat.pow_le_pow_right (show 0 < 4294967296 by decide) (show (digs 4294967296 V).length ≤ m by omega)
      have h4 := HVG.out
      have h5 := Nat.le_mul_of_pos_right (4294967296 ^ m) hf0
      omega
    · omega)
  have hk2e : k2 = m + 1 := by rw [← hk2]; exact HLV.out
  subst hk2e
  have HLB := Lib.hid hl2
  clear hl2 hk2 hk2le htk2
  obtain ⟨nq, hnq⟩ : ∃ nq, n = m + nq := ⟨n - m, by omega⟩
  have HNQ := Lib.hid hnq
  have hnq1 : 1 ≤ nq := by omega
  have hnq2 : nq ≤ 200000 := by omega
  clear hnq
  have HLNI := Lib.hid (show ((n : Int) + 1 - ((m : Int) + 1)) = (nq : Int) by have := HNQ.out; omega)
  go_wp2_with (at_make; refine wpList_make_blk _ rfl _ _ 31 rfl 75 i0 .u32 4 Try.underlying31 hi0 hz0 hz1 hz2 nq _ rfl rfl (by have := HNQ.out; omega) (by decide) (by omega) ?_; intro w3 hblk3 hb3)
  obtain ⟨G3, hG3⟩ : ∃ G3, w2.heap.size = G3 := ⟨_, rfl⟩
  rw [hG3] at hblk3 ⊢
  have HBK3 := Lib.hid hblk3
  have HB3 := Lib.hid hb3
  have HBK13 := Lib.hid (HBK12.out.new hb3)
  have HLB3 := Lib.hid (HLB.out.new hb3)
  have HG12 := Lib.hid (show G1 < G2 from Nat.lt_of_lt_of_le HBK1.out.lt HG2.out)
  have HG23 := Lib.hid (show G2 < G3 by rw [← hG3]; exact HBK2.out.lt)
  have HBW3 := Lib.hid (show Below w.heap.size w w3 from (HB1.out.trans (HB2.out.mono HB1.out.size)).trans (hb3.mono (HB1.out.trans (HB2.out.mono HB1.out.size)).size))
  have HLAST := Lib.hid (dig_digs (B := 4294967296) (by decide) V)
  have HVLB := Lib.hid (val_digs (B := 4294967296) (by decide) V)
  have hbt : 0 < (digs 4294967296 V).getD m 0 := by
    have := digs_last (B := 4294967296) (n := V) (by decide) (by have := HV0.out; omega)
    rw [HLV.out, Nat.add_sub_cancel] at this
    omega
  have HBT := Lib.hid hbt
  clear hblk3 hb3 hG3 hbt hc1 hsh hsh2
  have HST := Lib.hid (show DivInv 4294967296 (x * f) V m (n + 1) nq nq o1' (List.replicate nq 0) from
    DivInv.start (by decide) HOL1.out HOD1.out HOV1.out (by
      have h1 := HXF.out
      have h2 := Nat.mul_le_mul_left (4294967296 ^ nq) HVG.out
      rw [← Nat.mul_assoc, ← Nat.pow_add, Nat.add_comm nq m, ← HNQ.out] at h2
      omega))
  generalize digs 4294967296 V = lb at HLB HLV HLB3 HLAST HVLB HBT
  go_wp2
  go_step3
  go_wp2
  go_loopg [7] nq (fun g s7 wr => ∃ (z : Int) (r oq : List Nat), s7 = .int .i64 z ∧ z = (g : Int) - 1 ∧ g ≤ nq ∧ DivInv 4294967296 (x * f) V m (n + 1) nq g r oq ∧ Blk .u32 wr G1 75 r ∧ Blk .u32 wr G3 75 oq ∧ LO .u32 (· = G2) wr (.slice (some ⟨G2, 0, none⟩) (m + 1) (m + 2)) lb ∧ Below w.heap.size w wr)
  case atStart => exact ⟨(nq : Int) - 1, o1', _, rfl, rfl, Nat.le_refl _, HST.out, HBK13.out, HBK3.out, HLB3.out, HBW3.out⟩
  case round =>
    clear HST HBK13 HBK3 HLB3 HBW3 HBK1 HBK2 HBK12 HLB HB1 HB2 HB3 HX HY
    obtain ⟨z, r, oq, rfl, hz, hgn, hdi, hbr, hbq, hlb, hbw⟩ := hrel
    have HDI := Lib.hid hdi
    have HBR := Lib.hid hbr
    have HBQ := Lib.hid hbq
    have HLB := Lib.hid hlb
    have HBW := Lib.hid hbw
    clear hdi hbr hbq hlb hbw
    cases gk with
    | zero =>
      obtain rfl : z = -1 := by omega
      clear hz
      have HDD := Lib.hid HDI.out.done
      have HDV := Lib.hid (div_scaled (x := x) (y := y) (f := f) (q := val 4294967296 oq) (r := val 4294967296 r) hf0 HY0.out (by rw [HVV.out]; exact HDD.out.1) (by rw [HVV.out]; exact HDD.out.2))
      go_wp2_with fail
      refine (shorten_any r [] G1 (n + 1) (n + 1) f wr (by rw [List.append_nil]; exact HBR.out) HDI.out.rl HDI.out.rd (by omega) hf0 hfl).mono ?_
      rintro e w5 ⟨rfl, ⟨r5, hrl5, hrd5, hrv5, hrb5⟩, hk5⟩
      rw [List.append_nil] at hrb5
      have HRL5 := Lib.hid hrl5
      have HRD5 := Lib.hid hrd5
      have HRV5 := Lib.hid (show val 4294967296 r5 = x % y by rw [hrv5]; exact HDV.out.2.symm)
      have HRB5 := Lib.hid hrb5
      have HQ5 := Lib.hid (HBQ.out.kp hk5 (by have := HG12.out; have := HG23.out; omega))
      have HBW5 := Lib.hid (show Below w.heap.size w w5 from ((Kp.new HBW.out).step hk5 (t := fun _ => False) (fun k h1 h2 => by have := HG1.out; omega)).below_new (fun _ _ e => e))
      clear hrl5 hrd5 hrv5 hrb5 hk5
      obtain ⟨md, hmd⟩ : ∃ md, val 4294967296 r % f = md := ⟨_, rfl⟩
      go_wp2_with fail
      refine (trimmed_ok (· = G3) oq _ nq nq w5 HDI.out.qd (HQ5.out.li0 HDI.out.ql (Nat.le_refl _)) (by omega)).mono ?_
      rw [← HDV.out.1]
      rintro e w' ⟨⟨k6, rfl, hl6, hk6, _, _⟩, rfl⟩
      have HL6 := Lib.hid hl6
      have HK6 := Lib.hid hk6
      clear hl6 hk6
      go_wp2_with fail
      refine (trimmed_ok (· = G1) r5 _ (n + 1) (n + 1) w5 HRD5.out (HRB5.out.li0 HRL5.out (Nat.le_refl _)) (by omega)).mono ?_
      rw [HRV5.out]
      rintro e w' ⟨⟨k7, rfl, hl7, hk7, _, _⟩, rfl⟩
      have HL7 := Lib.hid hl7
      have HK7 := Lib.hid hk7
      clear hl7 hk7
      go_wp2
      try rw [Exit.noGoto_ret]
      go_ret2
      exact ⟨_, k6, _, _, k7, _, rfl, HL6.out.weak, HK6.out, HL7.out.weak, HK7.out, HBW5.out⟩
    | succ j =>
      obtain rfl : z = (j : Int) := by omega
      clear hz
      obtain ⟨P, seg, T, hr, hP, hs, hdP, hds, hdT, hT0, hDlt, hxe⟩ := HDI.out.part (by decide) HVT.out (show j + (m + 2) ≤ n + 1 by have := HNQ.out; omega)
      subst hr
      obtain ⟨hcut, hlseg⟩ := HBR.out.cut (P := Try.prog) (ty := 31) Try.underlying31 w32_size HDI.out.rl (Nat.le_refl _) hP hs (by omega) ((j : Int)) ((j : Int) + ((m : Int) + 1) + 1) rfl (by omega)
      have HSG := Lib.hid hlseg
      have HP := Lib.hid hP
      have HS := Lib.hid hs
      have HDP := Lib.hid hdP
      have HDS := Lib.hid hds
      have HDT := Lib.hid hdT
      have HT0 := Lib.hid hT0
      have HDL := Lib.hid hDlt
      have HXE := Lib.hid hxe
      clear hlseg hP hs hdP hds hdT hT0 hDlt hxe
      have hj0 : (0 : Int) ≤ (j : Int) := by omega
      have hjq : j < nq := by omega
      go_wp2_with fail
      refine (guess_any seg lb _ _ m _ _ wr HDS.out HLAST.out HSG.out.weak HLB.out.weak (by omega) HBT.out).mono ?_
      rintro e w4 ⟨⟨g0, rfl, hg0, hgq⟩, hb4⟩
      rw [HVLB.out] at hgq
      have HG0 := Lib.hid hg0
      have HGQ := Lib.hid hgq
      have HB4 := Lib.hid hb4
      have HBR4 := Lib.hid (HBR.out.new hb4)
      have HBQ4 := Lib.hid (HBQ.out.new hb4)
      have HLB4 := Lib.hid (HLB.out.new hb4)
      have HBW4 := Lib.hid (HBW.out.trans (hb4.mono HBW.out.size))
      clear hg0 hgq hb4 hcut HBR HBQ HLB HBW
      go_wp2_with fail
      go_loopg [9] g0 (fun g2 s9 wy => s9 = .int .u32 (g2 : Int) ∧ g2 < 4294967296 ∧ (∀ q, q < 4294967296 → q * V ≤ val 4294967296 seg → q ≤ g2) ∧ Below w4.heap.size w4 wy)
      case atStart => exact ⟨rfl, HG0.out, HGQ.out, Below.refl _ _⟩
      case round =>
        clear HG0 HGQ HB4
        obtain ⟨rfl, hgl, hgq, hby⟩ := hrel
        have HGL := Lib.hid hgl
        have HGQ := Lib.hid hgq
        have HBY := Lib.hid hby
        clear hgl hgq hby
        have HTM := Lib.hid (times_any lb _ (m + 1) (m + 2) gk 0 _ HLAST.out (HLB4.out.new HBY.out).weak (by omega) HGL.out (by decide))
        rw [show ((0 : Nat) : Int) = 0 from rfl] at HTM
        go_wp2_with fail
        refine HTM.out.mono ?_
        rintro e w5 ⟨G5, N5, o5, rfl, hg5, hblk5, hol5, hod5, ⟨hov5, hon5⟩, hb5⟩
        have hN5 : N5 = m + 2 := by omega
        subst hN5
        rw [HVLB.out, Nat.add_zero] at hov5
        have HB5 := Lib.hid (HBY.out.trans (hb5.mono HBY.out.size))
        have HLO5 := Lib.hid (hblk5.li0 hol5 (Nat.le_refl (m + 2)))
        have HOD5 := Lib.hid hod5
        have HOV5 := Lib.hid hov5
        have HG5 := Lib.hid (show G1 < G5 from Nat.lt_of_lt_of_le HBR4.out.lt (Nat.le_trans HBY.out.size hg5))
        clear hg5 hblk5 hol5 hod5 hov5 hon5 hb5 HTM
        obtain ⟨D, hD⟩ : ∃ D, val 4294967296 seg = D := ⟨_, rfl⟩
        rw [hD] at HGQ
        have HD := Lib.hid hD
        obtain ⟨v, hv⟩ : ∃ v, cmpN (V * gk) D = v := ⟨_, rfl⟩
        have HCMP := Lib.hid (compareWords_eq o5 seg _ _ (m + 2) (m + 2) (n + 1 - j) w5 HOD5.out HDS.out HLO5.out.weak ((HBR4.out.new HB5.out).cut (P := Try.prog) (ty := 31) Try.underlying31 w32_size HDI.out.rl (Nat.le_refl _) HP.out HS.out (by omega) ((j : Int)) ((j : Int) + ((m : Int) + 1) + 1) rfl (by omega)).2.weak (by omega))
        rw [HOV5.out, hD, hv] at HCMP
        have HV := Lib.hid hv
        clear hD hv
        by_cases hle : V * gk ≤ D
        · have hv0 : v ≤ 0 := by rw [← HV.out]; unfold cmpN; split <;> (try split) <;> omega
          have HLE := Lib.hid hle
          have HGD := Lib.hid (show gk = D / V by
            refine (Nat.div_eq_of_lt_le (by rw [Nat.mul_comm]; exact hle) ?_).symm
            rcases Nat.lt_or_ge D ((gk + 1) * V) with h | h
            · exact h
            · have h1 : gk + 1 < 4294967296 := by
                have h2 := HDL.out
                rw [HD.out] at h2
                have h3 : (gk + 1) * V < 4294967296 * V := by omega
                exact Nat.lt_of_mul_lt_mul_right h3
              have := HGQ.out (gk + 1) h1 h
              omega)
          clear hle
          go_wp2_with fail
          refine HCMP.out.mono ?_
          rintro e w6 ⟨rfl, hb6⟩
          have HB6 := Lib.hid (HB5.out.trans (hb6.mono HB5.out.size))
          have HLO6 := Lib.hid (HLO5.out.new hb6)
          clear hb6 HCMP
          go_wp2_with fail
          refine (subtract_any P seg T o5 _ G1 j (m + 2) (n + 1 - j) (m + 2) (m + 2) w6 (HBR4.out.new HB6.out) HP.out HS.out HDS.out HOD5.out (HLO6.out.mono (fun b _ h e => by have := HG5.out; omega)) (by omega) (by omega) (by omega) (by rw [HOV5.out, HD.out]; exact HLE.out)).mono ?_
          rw [HOV5.out, HD.out]
          rintro e w7 ⟨rfl, ⟨s7, hsl7, hsd7, hsv7, hsb7⟩, hk7⟩
          have HSL7 := Lib.hid hsl7
          have HSD7 := Lib.hid hsd7
          have HSV7 := Lib.hid hsv7
          have HSB7 := Lib.hid hsb7
          have hbq7 := (HBQ4.out.new HB6.out).kp hk7 (by have := HG12.out; have := HG23.out; omega)
          have HBQ7 := Lib.hid hbq7
          have HLB7 := Lib.hid ((HLB4.out.new HB6.out).kp hk7 (fun b _ h e => by have := HG12.out; omega))
          have HBW7 := Lib.hid (show Below w.heap.size w w7 from ((Kp.new (HBW4.out.trans (HB6.out.mono HBW4.out.size))).step hk7 (t := fun _ => False) (fun k h1 h2 => by have := HG1.out; omega)).below_new (fun _ _ e => e))
          have hc7 := hbq7.cell (i := j) (by rw [HDI.out.ql]; exact hjq)
          obtain ⟨old, hold⟩ : ∃ old, oq.getD j 0 = old := ⟨_, rfl⟩
          rw [hold] at hc7
          have hf7 := hbq7.frozen j
          have HS8 := Lib.hid (hbq7.set_ j gk)
          have HNX := Lib.hid (HDI.out.next HV0.out (s' := s7) (q := gk) rfl HP.out HS.out HSL7.out HDP.out HDT.out HSD7.out HT0.out HGL.out (by rw [HD.out]; exact HGD.out) (by rw [HD.out]; exact HSV7.out) HXE.out hjq)
          clear hsl7 hsd7 hsv7 hsb7 hk7 hbq7 hold
          go_wp2
          go_roundg j
          case measure => omega
          case rel =>
            refine ⟨(j : Int) - 1, P ++ (s7 ++ T), oq.set j gk, rfl, rfl, by omega, HNX.out, ?_, HS8.out, ?_, ?_⟩
            · exact HSB7.out.far (p := ⟨G3, j, none⟩) (by have := HG12.out; have := HG23.out; show G1 ≠ G3; omega) _
            · exact HLB7.out.kp (t := (· = G3)) ((Kp.refl (· = G3) _).setCell (p := ⟨G3, j, none⟩) (fun _ => rfl) _) (fun b _ h e => by have := HG23.out; omega)
            · exact HBW7.out.setCell (p := ⟨G3, j, none⟩) (by have := HG1.out; have := HG12.out; have := HG23.out; show w.heap.size ≤ G3; omega) _
        · have hv0 : ¬ v ≤ 0 := by rw [← HV.out, cmpN, if_neg (by omega), if_pos (by omega)]; decide
          have hg1 : 1 ≤ gk := by
            rcases Nat.eq_zero_or_pos gk with h | h
            · subst h; omega
            · exact h
          have hg2 : gk < 4294967296 := HGL.out
          have HLE := Lib.hid hle
          clear hle
          go_wp2_with fail
          refine HCMP.out.mono ?_
          rintro e w6 ⟨rfl, hb6⟩
          have HB6 := Lib.hid (HB5.out.trans (hb6.mono HB5.out.size))
          clear hb6 HCMP
          go_wp2
          go_roundg (gk - 1)
          case measure => omega
          case rel =>
            refine ⟨congrArg _ (by omega), by omega, fun q hq h => ?_, HB6.out⟩
            have h1 := HGQ.out q hq (by rw [← HD.out]; exact h)
            rcases Nat.lt_or_ge q gk with h2 | h2
            · omega
            · obtain rfl : q = gk := by omega
              have := HLE.out
              rw [HD.out, Nat.mul_comm] at h
              omega
theorem dividedp_any (x y : Nat) (A A' : Option Addr) (n n' c c' : Nat) (w : World) (hx : LI .u32 w (.slice A n c) (digs 4294967296 x)) (hy : LI .u32 w (.slice A' n' c') (digs 4294967296 y)) (hn : n ≤ 200000) (hy0 : 0 < y) :
    Calls Try.prog 60 #[.slice A n c, .slice A' n' c'] w (RetQW (x / y) (x % y) w) := by
  rcases Nat.lt_or_ge n n' with h | h
  · exact divided_lt x y A A' n n' c c' w hx hy hn h
  · have hl := hy.len.1
    rcases Nat.eq_zero_or_pos n' with h0 | h0
    · subst h0
      have := (digs_nil (B := 4294967296) (by decide)).1 (List.eq_nil_of_length_eq_zero hl)
      omega
    · obtain ⟨m, rfl⟩ : ∃ m, n' = m + 1 := ⟨n' - 1, by omega⟩
      exact divided_ge x y A A' n m c c' w hx hy hn h
end Go.Proofs.Ytpcliampffeknaa
