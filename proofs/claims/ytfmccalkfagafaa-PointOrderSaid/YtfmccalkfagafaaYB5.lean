/- Texts, powers, helpers. Conditions: as each statement has them. -/
import Derived.Test.YtfmccalkfagafaaYB4
import Derived.Test.YtfmccalkfagafaaYB1
import Derived.Deep.RegionHeld3
namespace Go.Proofs.Ytfmccalkfagafaa
open Go.RowKit
attribute [local go_sem ↓] Go.wp_at_zero Go.wp_at_succ

theorem str_get (l : List UInt8) (j : Nat) (h : j < (ByteArray.mk l.toArray).size) : (ByteArray.mk l.toArray)[j]'h = l[j]'h := rfl
attribute [local go_sem] str_get
end Go.Proofs.Ytfmccalkfagafaa

namespace Go.Proofs.Ytfmccalkfagafaa
open Go.RowKit
attribute [local go_sem ↓] Go.wp_at_zero Go.wp_at_succ
attribute [local go_sem] str_get

/-- The state of the loop: i bytes are read, m of them not yet laid into the words. -/
def GrpInv (D : List UInt8) (i b g : Nat) (o : List Nat) : Prop := val 4294967296 o * b + g = dval (D.take i) ∧ g < b ∧ (∃ m, m ≤ 8 ∧ b = 10 ^ m) ∧ (i = D.length → b = 1)
theorem pow_le8 {m : Nat} (h : m ≤ 8) : 0 < 10 ^ m ∧ 10 ^ m ≤ 100000000 ∧ (10 ^ m * 10 = 1000000000 → m = 8) ∧ (¬ 10 ^ m * 10 = 1000000000 → m ≤ 7) := by
  have : m = 0 ∨ m = 1 ∨ m = 2 ∨ m = 3 ∨ m = 4 ∨ m = 5 ∨ m = 6 ∨ m = 7 ∨ m = 8 := by omega
  rcases this with rfl | rfl | rfl | rfl | rfl | rfl | rfl | rfl | rfl <;> decide
theorem GrpInv.start (D : List UInt8) : GrpInv D 0 1 0 [] := ⟨rfl, by decide, ⟨0, by decide, rfl⟩, fun _ => rfl⟩
theorem GrpInv.bound {D : List UInt8} {i b g : Nat} {o : List Nat} (h : GrpInv D i b g o) : 0 < b ∧ b ≤ 100000000 ∧ g < b := by
  obtain ⟨_, h2, ⟨m, hm, rfl⟩, _⟩ := h
  have := pow_le8 hm
  exact ⟨this.1, this.2.1, h2⟩
theorem GrpInv.done {D : List UInt8} {b g : Nat} {o : List Nat} (h : GrpInv D D.length b g o) : val 4294967296 o = dval D := by
  obtain ⟨h1, h2, _, h4⟩ := h
  have := h4 rfl
  subst this
  rw [List.take_length] at h1
  omega
theorem take_dval {D : List UInt8} {i c : Nat} (hi : i < D.length) (hc : (D[i]'hi).toNat = 48 + c) : dval (D.take (i + 1)) = 10 * dval (D.take i) + c := by
  rw [List.take_succ_eq_append_getElem hi, dval_snoc, hc]
  omega
theorem GrpInv.next {D : List UInt8} {i b g c : Nat} {o : List Nat} (h : GrpInv D i b g o) (hi : i < D.length) (hc : (D[i]'hi).toNat = 48 + c) (hc9 : c ≤ 9) (h9 : ¬ b * 10 = 1000000000) (hl : ¬ i = D.length - 1) : GrpInv D (i + 1) (b * 10) (g * 10 + c) o := by
  obtain ⟨h1, h2, ⟨m, hm, rfl⟩, _⟩ := h
  have h8 := (pow_le8 hm).2.2.2 h9
  refine ⟨?_, by omega, ⟨m + 1, by omega, by rw [Nat.pow_succ]⟩, fun e => by omega⟩
  rw [take_dval hi hc, ← h1, Nat.mul_add, Nat.mul_comm 10 (_ * _), Nat.mul_assoc]
  omega
end Go.Proofs.Ytfmccalkfagafaa

namespace Go.Proofs.Ytfmccalkfagafaa
open Go.RowKit
attribute [local go_sem ↓] Go.wp_at_zero Go.wp_at_succ

theorem own_len {w : World} {base n : Nat} {e : TypeId} {v : Value} {k : IntKind} {ys : List Int} (h : w.ownsRow base e 1 v n (vs k ys)) : ys.length = n := by
  have := h.1
  rw [vs_length] at this
  omega
theorem vs_setI (k : IntKind) (xs : List Int) (i : Nat) (v : Int) : (vs k xs).set i (.int k v) = vs k (xs.set i v) := by simp [vs, List.map_set]
/-- The first k and the last k of a list have changed places. -/
def Swp (L : List Int) (k : Nat) (ys : List Int) : Prop := ys.length = L.length ∧ ∀ i, i < L.length → ys.getD i 0 = if i < k ∨ L.length ≤ i + k then L.getD (L.length - 1 - i) 0 else L.getD i 0
theorem Swp.start (L : List Int) : Swp L 0 L := ⟨rfl, fun i hi => by rw [if_neg (by omega)]⟩
theorem Swp.next {L ys : List Int} {k j : Nat} (h : Swp L k ys) (hj : L.length = k + j + 1) (hkj : k < j) : Swp L (k + 1) ((ys.set k (ys.getD j 0)).set j (ys.getD k 0)) := by
  obtain ⟨h1, h2⟩ := h
  refine ⟨by simpa using h1, fun i hi => ?_⟩
  have hk := h2 k (by omega)
  have hjj := h2 j (by omega)
  rw [if_neg (by omega)] at hk hjj
  rw [List.getD_eq_getElem?_getD, List.getElem?_set, List.getElem?_set]
  by_cases e1 : j = i
  · subst e1
    rw [if_pos rfl, if_pos (by simp; omega), Option.getD_some, if_pos (by omega), hk, show L.length - 1 - j = k by omega]
  · rw [if_neg e1]
    by_cases e2 : k = i
    · subst e2
      rw [if_pos rfl, if_pos (by omega), Option.getD_some, if_pos (by omega), hjj, show L.length - 1 - k = j by omega]
    · rw [if_neg e2, ← List.getD_eq_getElem?_getD, h2 i hi]
      by_cases e3 : i < k ∨ L.length ≤ i + k
      · rw [if_pos e3, if_pos (by omega)]
      · rw [if_neg e3, if_neg (by omega)]
theorem Swp.done {L ys : List Int} {k : Nat} (h : Swp L k ys) (hk : L.length ≤ k + k + 1) : ys = L.reverse := by
  obtain ⟨h1, h2⟩ := h
  refine List.ext_getElem (by simpa using h1) fun i hi hi' => ?_
  have h3 := h2 i (by omega)
  rw [List.getD_eq_getElem?_getD, List.getElem?_eq_getElem hi, Option.getD_some] at h3
  rw [List.getElem_reverse, h3]
  split
  · rw [List.getD_eq_getElem?_getD, List.getElem?_eq_getElem (by omega), Option.getD_some]
  · rename_i hne
    have hl : i < L.length := by omega
    rw [List.getD_eq_getElem?_getD, List.getElem?_eq_getElem hl, Option.getD_some]
    congr 1
    omega
set_option maxRecDepth 100000 in
set_option maxHeartbeats 1600000 in
theorem reverse_any (L : List Int) (base G n c : Nat) (w : World) (h : w.ownsRow base 5 1 (.slice (some ⟨G, 0, none⟩) n c) n (vs .u8 L)) (hn : n ≤ 2000000) :
    Calls Try.prog 92 #[.slice (some ⟨G, 0, none⟩) n c] w fun e w' => e = .returned (.tuple #[]) ∧ w'.ownsRow base 5 1 (.slice (some ⟨G, 0, none⟩) n c) n (vs .u8 L.reverse) ∧ Kp (· = G) w w' := by
  have HO := Lib.hid h
  have HL := Lib.hid (own_len h)
  clear h
  go_enter Try.func92, Try.ntmps92
  go_wp2_with fail
  go_loopw [2, 3] (fun i j wr => ∃ (k : Nat) (ys : List Int), k ≤ n ∧ k ≤ (n : Int) - k ∧ i = .int .i64 k ∧ j = .int .i64 ((n : Int) - 1 - k) ∧ Swp L k ys ∧ wr.ownsRow base 5 1 (.slice (some ⟨G, 0, none⟩) n c) n (vs .u8 ys) ∧ Kp (· = G) w wr) (fun i _ _ => n - (intOf i).toNat)
  case atStart => exact ⟨0, L, by omega, by omega, rfl, by go_num, Swp.start L, HO.out, Kp.refl _ _⟩
  case round =>
    obtain ⟨k, ys, hk, hk2, rfl, rfl, hsw, hown, hkp⟩ := hrel
    have HSW := Lib.hid hsw
    have HW := Lib.hid hown
    have HKP := Lib.hid hkp
    clear hsw hown hkp
    by_cases hlt : (k : Int) < (n : Int) - 1 - k
    · obtain ⟨z, hz⟩ : ∃ z : Int, (n : Int) - 1 - k = z := ⟨_, rfl⟩
      rw [hz] at hlt ⊢
      obtain ⟨j, rfl⟩ : ∃ j : Nat, z = (j : Int) := ⟨z.toNat, by omega⟩
      have HJ := Lib.hid (show n = k + j + 1 by omega)
      have hkj : k < j := by omega
      have hjn : j < n := by omega
      have hkn : k < n := by omega
      clear hz
      have HYL := Lib.hid (own_len HW.out)
      have hck : wr.cell? ⟨G, k, none⟩ = some (.int .u8 (ys.getD k 0)) := by
        rw [HW.out.cellAt k (by omega)]
        exact vs_get (by rw [List.getD_eq_getElem?_getD, List.getElem?_eq_getElem (by rw [HYL.out]; exact hkn)]; rfl)
      have hcj : wr.cell? ⟨G, j, none⟩ = some (.int .u8 (ys.getD j 0)) := by
        rw [HW.out.cellAt j (by omega)]
        exact vs_get (by rw [List.getD_eq_getElem?_getD, List.getElem?_eq_getElem (by rw [HYL.out]; exact hjn)]; rfl)
      have hfk := HW.out.frozenAt k
      have hfj := HW.out.frozenAt j
      have HNX := Lib.hid (HSW.out.next (j := j) (by have := HL.out; have := HJ.out; omega) hkj)
      generalize ys.getD k 0 = X at hck HNX
      generalize ys.getD j 0 = Y at hcj HNX
      have hst := ((HW.out.stored k (.int .u8 Y)).1.stored j (.int .u8 X)).1
      rw [vs_setI, vs_setI] at hst
      have HST := Lib.hid hst
      have HKS := Lib.hid ((HKP.out.setCell (p := ⟨G, k, none⟩) (fun _ => rfl) (.int .u8 Y)).setCell (p := ⟨G, j, none⟩) (fun _ => rfl) (.int .u8 X))
      clear hst
      go_wp2_with fail
      go_region
      go_wp2
      go_roundw
      case rel => exact ⟨k + 1, _, by omega, by have := HJ.out; omega, by go_num, by have := HJ.out; go_num, HNX.out, HST.out, HKS.out.drew⟩
      case measure => simp [intOf]; omega
    · have HDN := Lib.hid (HSW.out.done (by have := HL.out; omega))
      go_wp2_with fail
      go_end0
      exact ⟨rfl, by rw [← HDN.out]; exact HW.out, HKP.out⟩
end Go.Proofs.Ytfmccalkfagafaa

namespace Go.Proofs.Ytfmccalkfagafaa
open Go.RowKit
attribute [local go_sem ↓] Go.wp_at_zero Go.wp_at_succ

theorem u8_info : (Try.prog.info? 5).map (fun i => (i.zero, i.size, i.bytes)) = some (some (.int .u8 0), 1, 1) := by kernel_rfl
theorem own_snocB {W : World} {base t k : Nat} {v : Value} {pre : List UInt8} {x : UInt8} {y : Int} (hk : pre.length = k) (h : W.ownsRow base t 1 v (k + 1) (vs .u8 (bI pre) ++ [.int .u8 y])) (hy : y = (x.toNat : Int)) :
    W.ownsRow base t 1 v (k + 1) (vs .u8 (bI (pre ++ [x]))) := by
  subst hk hy
  rw [show bI (pre ++ [x]) = bI pre ++ [(x.toNat : Int)] by simp [bI], vs, List.map_append]
  exact h
theorem own_kpR {w w' : World} {base n size : Nat} {e : TypeId} {v : Value} {zs : List Value} {t : Nat → Prop} (h : w.ownsRow base e size v n zs) (hk : Kp t w w') (ht : ∀ b, base ≤ b → ¬ t b) : w'.ownsRow base e size v n zs := by
  refine ⟨h.1, ?_⟩
  rcases h.2 with h0 | ⟨b, cap, cur, h1, h2, h3, h4⟩
  · exact .inl h0
  · exact .inr ⟨b, cap, cur, h1, h2, (hk.block b (Array.getElem?_eq_some_iff.1 h3).1 (ht b h2)).trans h3, h4⟩
/-- The digits of a number from its end, none of zero. -/
def rdz (v : Nat) : List UInt8 := if v = 0 then [] else (dec v).reverse
theorem rdz_zero : rdz 0 = [] := rfl
theorem rdz_pos {v : Nat} (h : 0 < v) : rdz v = dig8 (v % 10) :: rdz (v / 10) := by
  unfold rdz
  rw [if_neg (by omega)]
  by_cases h10 : v < 10
  · rw [dec_lt h10, if_pos (by omega), show v % 10 = v by omega]
    rfl
  · rw [dec_ge (by omega), if_neg (by omega), List.reverse_append]
    rfl
theorem rdz_len {v k : Nat} (h : v < 10 ^ k) : (rdz v).length ≤ k := by
  unfold rdz
  split
  · simp
  · rw [List.length_reverse]
    rcases Nat.eq_zero_or_pos k with e | e
    · subst e; simp at h; omega
    · exact (dec_len e).2 h
/-- Some digits of a group are out: g and L are left. -/
def InnV (X L g m : Nat) (T : List UInt8) : Prop := m ≤ 9 ∧ g < 10 ^ (9 - m) ∧ T ++ rdz (g + L * 10 ^ (9 - m)) = rdz X
theorem InnV.start {X L : Nat} {T : List UInt8} (h : T ++ rdz L = rdz X) : InnV X (L / 1000000000) (L % 1000000000) 0 T := by
  refine ⟨by decide, Nat.mod_lt _ (by decide), ?_⟩
  rw [show L % 1000000000 + L / 1000000000 * 10 ^ (9 - 0) = L by rw [show 10 ^ (9 - 0) = 1000000000 from rfl]; omega]
  exact h
theorem InnV.next {X L g m : Nat} {T : List UInt8} (h : InnV X L g m T) (hm : m < 9) (hp : 0 < L ∨ 0 < g) : InnV X L (g / 10) (m + 1) (T ++ [dig8 (g % 10)]) := by
  obtain ⟨_, h2, h3⟩ := h
  obtain ⟨q, hq⟩ : ∃ q, 9 - m = q + 1 := ⟨8 - m, by omega⟩
  have hq' : 9 - (m + 1) = q := by omega
  rw [hq, Nat.pow_succ] at h2 h3
  have hP : 0 < 10 ^ q := Nat.pow_pos (by decide)
  have hV : 0 < g + L * (10 ^ q * 10) := by
    rcases hp with h | h
    · have : 0 < L * (10 ^ q * 10) := Nat.mul_pos h (by omega)
      omega
    · omega
  refine ⟨by omega, by rw [hq']; omega, ?_⟩
  rw [rdz_pos hV] at h3
  rw [hq', ← h3, List.append_assoc, List.singleton_append, ← Nat.mul_assoc]
  rw [show (g + L * 10 ^ q * 10) % 10 = g % 10 by omega, show (g + L * 10 ^ q * 10) / 10 = g / 10 + L * 10 ^ q by omega]
theorem InnV.done {X L g m : Nat} {T : List UInt8} (h : InnV X L g m T) (hd : m = 9 ∨ (L = 0 ∧ g = 0)) : T ++ rdz L = rdz X := by
  obtain ⟨_, h2, h3⟩ := h
  rcases hd with rfl | ⟨rfl, rfl⟩
  · simp at h2
    subst h2
    simpa using h3
  · simpa using h3
def RetStr (s : List UInt8) (w : World) (e : Ending) (w' : World) : Prop := e = .returned (.string ⟨s.toArray⟩) ∧ Below w.heap.size w w'
theorem rdz_rev {v : Nat} (h : 0 < v) : (rdz v).reverse = dec v := by
  rw [rdz, if_neg (by omega), List.reverse_reverse]
theorem bI_rev (l : List UInt8) : (bI l).reverse = bI l.reverse := by simp [bI]

set_option maxRecDepth 100000 in
set_option maxHeartbeats 3200000 in
theorem pstring_any (x : Int) (s : Bool) (A : Option Addr) (n c : Nat) (w : World) (hx : PI w s A n c x) (hn : n ≤ 100000) :
    Calls Try.prog 71 #[.agg #[.bool s, .slice A n c]] w (RetStr (decI x) w) := by
  obtain ⟨W, hW⟩ : ∃ W, w.alloc (.cells #[.bool s, .slice A n c] 29) = W := ⟨_, rfl⟩
  have HK := Lib.hid (show Below w.heap.size w W by rw [← hW]; exact (Below.refl _ w).alloc (Nat.le_refl _) _)
  have HP := Lib.hid (show P2 29 W w.heap.size (.bool s) (.slice A n c) by rw [← hW]; exact P2.lit _ _ _ _)
  have HX := Lib.hid (hx.new HK.out)
  have HWS := Lib.hid (show W.heap.size = w.heap.size + 1 by rw [← hW]; simp)
  obtain ⟨p0, p1⟩ := HP.out.cells
  clear hx
  by_cases hx0 : x = 0
  · subst hx0
    rw [show decI 0 = [48] by rw [decI, if_neg (by decide)]; exact dec_lt (by decide)]
    go_enter Try.func71, Try.ntmps71
    go_wp2_with fail
    refine (sign_any 0 s A n c W HX.out (by omega)).mono ?_
    rintro e w1 ⟨rfl, hb1⟩
    rw [show cmpI 0 0 = 0 from rfl]
    have HB1 := Lib.hid (HK.out.trans (hb1.mono HK.out.size))
    clear hb1
    go_wp2
    go_ret
    exact ⟨rfl, HB1.out⟩
  · obtain ⟨i0, hi0, hz0, hz1, hz2⟩ := info_parts u8_info
    have HXP := Lib.hid (show 0 < x.natAbs by omega)
    have HXL := Lib.hid (HX.out.2.1)
    go_enter Try.func71, Try.ntmps71
    go_wp2_with fail
    refine (sign_any x s A n c W HX.out (by omega)).mono ?_
    rintro e w1 ⟨rfl, hb1⟩
    obtain ⟨v, hv⟩ : ∃ v, cmpI x 0 = v := ⟨_, rfl⟩
    have hv0 : (v == 0) = false := by rw [← hv]; exact cmpI_zero hx0
    rw [hv]
    clear hv p0 p1 hW
    have HB1 := Lib.hid hb1
    obtain ⟨p10, p11⟩ := (HP.out.new hb1).cells
    clear hb1
    go_wp2_with fail
    refine (copied_any _ A n c w1 (HX.out.2.2.new HB1.out) (by omega)).mono ?_
    rintro e w2 ⟨rfl, hblk2, hb2⟩
    obtain ⟨G, hG⟩ : ∃ G, w1.heap.size = G := ⟨_, rfl⟩
    rw [hG] at hblk2 ⊢
    have HBK2 := Lib.hid hblk2
    have HB2 := Lib.hid (HB1.out.trans (hb2.mono HB1.out.size))
    have HG := Lib.hid (show w.heap.size < G ∧ G < w2.heap.size by have := HB1.out.size; have := HWS.out; exact ⟨by omega, hblk2.lt⟩)
    clear hb2 hblk2 p10 p11 hG
    go_wp2_with fail
    obtain ⟨N, hN⟩ : ∃ N, (rdz x.natAbs).length = N := ⟨_, rfl⟩
    have HN := Lib.hid hN
    have hN1 : N ≤ 1000000 := by
      rw [← hN]
      refine Nat.le_trans (rdz_len (k := 10 * n) ?_) (by omega)
      have h1 := digs_lt (B := 4294967296) (by decide) x.natAbs
      rw [HXL.out] at h1
      refine Nat.lt_of_lt_of_le h1 ?_
      rw [Nat.pow_mul]
      exact Nat.pow_le_pow_left (by decide) n
    clear hN
    have hGw : w2.heap.size > G := HG.out.2
    go_loopw [3, 4] (fun v l wr => ∃ (t k L c' : Nat) (A' : Option Addr) (T : List UInt8) (Tl : List Nat), v = .slice A' t c' ∧ l = .slice (some ⟨G, 0, none⟩) k n ∧ k ≤ n ∧ t ≤ N ∧ T.length = t ∧ T ++ rdz L = rdz x.natAbs ∧ (digs 4294967296 L).length = k ∧ wr.ownsRow (G + 1) 5 1 (.slice A' t c') t (vs .u8 (bI T)) ∧ Blk .u32 wr G 132 (digs 4294967296 L ++ Tl) ∧ Below G w2 wr) (fun v _ _ => N - lenOf v)
    case atStart => exact ⟨0, n, x.natAbs, 0, none, [], [], rfl, rfl, Nat.le_refl _, by omega, rfl, rfl, HXL.out, World.ownsRow_nil _ _ _ _, by rw [List.append_nil]; exact HBK2.out, Below.refl _ _⟩
    case round =>
      obtain ⟨t, k, L, c', A', T, Tl, rfl, rfl, hk, ht, hT, hTL, hLk, hown, hblk, hbel⟩ := hrel
      have HT := Lib.hid hT
      have HTL := Lib.hid hTL
      have HLK := Lib.hid hLk
      have HO := Lib.hid hown
      have HBK := Lib.hid hblk
      have HBL := Lib.hid hbel
      clear hT hTL hLk hown hblk hbel
      rcases Nat.eq_zero_or_pos k with h0 | h0
      · subst h0
        have HL0 := Lib.hid (show L = 0 from (digs_nil (B := 4294967296) (by decide)).1 (List.eq_nil_of_length_eq_zero HLK.out))
        have HTT := Lib.hid (show T = rdz x.natAbs by
          have := HTL.out
          rwa [HL0.out, rdz_zero, List.append_nil] at this)
        have htn : 0 < t := by
          have := HT.out
          rw [HTT.out, rdz_pos HXP.out, List.length_cons] at this
          omega
        obtain ⟨g8, c8, e8⟩ : ∃ g c, Value.slice A' t c' = .slice (some ⟨g, 0, none⟩) t c := by
          rcases HO.out.2 with ⟨_, h0⟩ | ⟨g, cap, cur, h1, _⟩
          · omega
          · exact ⟨g, cap, h1⟩
        injection e8 with e81 e82 e83
        subst e81 e83
        have HBW := Lib.hid (HB2.out.trans ⟨HBL.out.os, HBL.out.tape, HBL.out.output, HBL.out.size, fun k hk => HBL.out.block k (by have := HG.out; have := HWS.out; omega)⟩)
        obtain ⟨p20, p21⟩ := (HP.out.new HBW.out).cells
        have HSG := Lib.hid HX.out.1
        have HG2 := Lib.hid (show W.heap.size ≤ G by have := HG.out; have := HWS.out; omega)
        cases s
        · have HRT := Lib.hid (show decI x = T.reverse by
            rw [HTT.out, rdz_rev HXP.out, decI, if_neg (of_decide_eq_false HSG.out.symm)])
          go_wp2_with fail
          refine (reverse_any (bI T) (G + 1) g8 t c' wr HO.out (by omega)).mono ?_
          rw [bI_rev]
          rintro e w9 ⟨rfl, hown9, hkp9⟩
          have hconv := (In.own hown9).text (P := Try.prog) (src := 36) (dst := 9) (e := 5) Try.underlying36 Try.underlying5 Try.underlying9
          have HB9 := Lib.hid (HBW.out.trans (hkp9.below (B := W.heap.size) HBW.out.size (fun b h => by have := own_block_ge HO.out g8 rfl; have := HG2.out; omega)))
          clear hkp9 hown9
          go_wp2
          go_ret
          exact ⟨by rw [HRT.out]; rfl, HK.out.trans (HB9.out.mono HK.out.size)⟩
        · have HRT := Lib.hid (show decI x = (T ++ [45]).reverse by
            rw [List.reverse_append, HTT.out, rdz_rev HXP.out, decI, if_pos (of_decide_eq_true HSG.out.symm)]
            rfl)
          have HO2 := Lib.hid (show t + 1 ≤ maxLen by unfold maxLen; omega)
          have HO3 := Lib.hid (show (t + 1) * 1 ≤ 140737488355328 by omega)
          have HO4 := Lib.hid (show G + 1 ≤ wr.heap.size by have := HBL.out.size; omega)
          have HOB := Lib.hid (own_block_ge HO.out)
          have HW1 := fun o => Lib.hid (HO.out.alloc o)
          go_wp2_with (at_builtin; refine wpList_append_own _ rfl _ _ 36 rfl (G + 1) 5 i0 (.int .u8 0) 1 1 Try.underlying36 hi0 hz0 hz1 hz2 rfl (by decide) _ _ _ rfl (HW1 _).out ⟨wr.heap.size, 0, none⟩ 1 1 [_] rfl rfl (cell_one_new _ _ _) (one_cells _ _) HO2.out HO3.out (alloc_ge HO4.out) ?_; intro v' w7 hown' hgrow _)
          have HB7 := Lib.hid ((HBW.out.alloc HBW.out.size _).grown hgrow (alloc_ge HBW.out.size) (fun b hb => by have := HOB.out b hb; have := HG2.out; omega))
          have ho7 := own_snocB (x := 45) HT.out hown' rfl
          obtain ⟨g7, c7, rfl⟩ : ∃ g c, v' = .slice (some ⟨g, 0, none⟩) (t + 1) c := by
            rcases ho7.2 with ⟨_, h0⟩ | ⟨g, cap, cur, h1, _⟩
            · omega
            · exact ⟨g, cap, h1⟩
          have HO7 := Lib.hid ho7
          clear hown' hgrow ho7 HW1
          go_wp2_with fail
          refine (reverse_any (bI (T ++ [45])) (G + 1) g7 (t + 1) c7 w7 HO7.out (by omega)).mono ?_
          rw [bI_rev]
          rintro e w9 ⟨rfl, hown9, hkp9⟩
          have hconv := (In.own hown9).text (P := Try.prog) (src := 36) (dst := 9) (e := 5) Try.underlying36 Try.underlying5 Try.underlying9
          have HB9 := Lib.hid (HB7.out.trans (hkp9.below (B := W.heap.size) HB7.out.size (fun b h => by have := own_block_ge HO7.out g7 rfl; have := HG2.out; omega)))
          clear hkp9 hown9
          go_wp2
          go_ret
          exact ⟨by rw [HRT.out, List.reverse_append]; rfl, HK.out.trans (HB9.out.mono HK.out.size)⟩
      · have HL0 := Lib.hid (show 0 < L by
          rcases Nat.eq_zero_or_pos L with h | h
          · have := HLK.out; rw [h, digs_zero, List.length_nil] at this; omega
          · exact h)
        have hk0 : (0 : Int) < k := by omega
        go_wp2_with fail
        refine (shorten_any _ Tl G k n 1000000000 wr HBK.out HLK.out (dig_digs (by decide) L) (by omega) (by decide) (by decide)).mono ?_
        rw [val_digs (by decide)]
        rintro e w5 ⟨rfl, ⟨r, hrl, hrd, hrv, hrb⟩, hkp5⟩
        have HRL := Lib.hid hrl
        have HRD := Lib.hid hrd
        have HRV := Lib.hid hrv
        have HRB := Lib.hid hrb
        have HK5 := Lib.hid hkp5
        have HLO := Lib.hid (show LO .u32 (· = G) w5 (.slice (some ⟨G, 0, none⟩) k n) r by
          have := hrb.li (off := 0) (n := k) (c := n) (by rw [List.length_append]; omega) hk
          rw [List.drop_zero, show (r ++ Tl).take k = r by rw [← hrl, List.take_left]] at this
          exact this)
        have HO5 := Lib.hid (own_kpR HO.out hkp5 (fun b h e => by omega))
        have HBL5 := Lib.hid (HBL.out.trans (hkp5.below (B := G) (by have := HBL.out.size; omega) (fun b h => by omega)))
        obtain ⟨g0, hg0⟩ : ∃ g0, L % 1000000000 = g0 := ⟨_, rfl⟩
        have HG0 := Lib.hid hg0
        rw [hg0]
        have hg9 : g0 < 1000000000 := by rw [← hg0]; exact Nat.mod_lt _ (by decide)
        clear hrl hrd hrv hrb hkp5 hg0 HBK HO HBL
        go_wp2_with fail
        refine (trimmed_ok (· = G) r _ k n w5 HRD.out HLO.out (by omega)).mono ?_
        rw [HRV.out]
        rintro e w6 ⟨⟨k6, rfl, _, hk6, hk6n, hr6⟩, rfl⟩
        have HK6 := Lib.hid hk6
        have HB6 := Lib.hid (show Blk .u32 w5 G 132 (digs 4294967296 (L / 1000000000) ++ (r.drop k6 ++ Tl)) by
          rw [← hr6, ← List.append_assoc, List.take_append_drop]
          exact HRB.out)
        clear hk6 hr6 HRB HLO HRD HRL HRV
        have HI0 := Lib.hid (InnV.start HTL.out)
        rw [HG0.out] at HI0
        obtain ⟨L', hL'⟩ : ∃ L', L / 1000000000 = L' := ⟨_, rfl⟩
        rw [hL'] at HK6 HB6 HI0
        have HL' := Lib.hid hL'
        have HKL := Lib.hid (show 0 < k6 ↔ 0 < L' by
          have := HK6.out
          constructor
          · intro h
            rcases Nat.eq_zero_or_pos L' with h' | h'
            · rw [h', digs_zero, List.length_nil] at this; omega
            · exact h'
          · intro h
            rcases Nat.eq_zero_or_pos k6 with h' | h'
            · rw [h'] at this
              have := (digs_nil (B := 4294967296) (by decide)).1 (List.eq_nil_of_length_eq_zero this)
              omega
            · exact h')
        clear hL'
        obtain ⟨wo, rfl⟩ : ∃ W, W = w5 := ⟨_, rfl⟩
        go_wp2_with fail
        go_loopw [3, 5, 6] (fun v g m wr => ∃ (t' m' g' c' : Nat) (A' : Option Addr) (T' : List UInt8), v = .slice A' t' c' ∧ g = .int .u32 g' ∧ m = .int .i64 m' ∧ t' = t + m' ∧ T'.length = t' ∧ InnV x.natAbs L' g' m' T' ∧ wr.ownsRow (G + 1) 5 1 (.slice A' t' c') t' (vs .u8 (bI T')) ∧ Below (G + 1) wo wr) (fun _ _ m _ => 9 - (intOf m).toNat)
        case atStart => exact ⟨t, 0, g0, c', A', T, rfl, rfl, rfl, rfl, HT.out, HI0.out, HO5.out, Below.refl _ _⟩
        case round =>
          obtain ⟨t', m, g, c', A', T', rfl, rfl, rfl, rfl, hT', hinn, hown', hbel'⟩ := hrel
          have HT' := Lib.hid hT'
          have HIN := Lib.hid hinn
          have HOW := Lib.hid hown'
          have HBE := Lib.hid hbel'
          have hm9 := hinn.1
          clear hT' hinn hown' hbel'
          have hg9 : g < 1000000000 := Nat.lt_of_lt_of_le HIN.out.2.1 (Nat.pow_le_pow_right (n := 10) (by decide) (show 9 - m ≤ 9 by omega))
          have HTN := Lib.hid (show t + m ≤ N by
            have h1 := congrArg List.length HIN.out.2.2
            rw [List.length_append, HT'.out, HN.out] at h1
            omega)
          obtain ⟨z, hz⟩ : ∃ z : Int, (g : Int) = z := ⟨_, rfl⟩
          rw [hz]
          have hzl : 0 ≤ z := by omega
          have hzr : z < 1000000000 := by omega
          have HZ := Lib.hid hz
          clear hz hg9
          by_cases hgo : m < 9 ∧ (0 < k6 ∨ 0 < z)
          · have HNX := Lib.hid (HIN.out.next hgo.1 (by
              rcases hgo.2 with h | h
              · exact .inl (HKL.out.1 h)
              · exact .inr (by have := HZ.out; omega)))
            have hq : ((m : Int) < 9 ∧ (0 : Int) < k6) ∨ ((m : Int) < 9 ∧ k6 = 0 ∧ 0 < z) := by omega
            have hm9' : m < 9 := hgo.1
            have HO2 := Lib.hid (show t + m + 1 ≤ maxLen by have := HTN.out; unfold maxLen; omega)
            have HO3 := Lib.hid (show (t + m + 1) * 1 ≤ 140737488355328 by have := HTN.out; omega)
            have HO4 := Lib.hid (show G + 1 ≤ wr.heap.size by have := HBE.out.size; have := HB6.out.lt; omega)
            have HOB := Lib.hid (own_block_ge HOW.out)
            have HW1 := fun o => Lib.hid (HOW.out.alloc o)
            clear hgo
            rcases hq with ⟨hq1, hq2⟩ | ⟨hq1, rfl, hq3⟩
            all_goals
              go_wp2_with (at_builtin; refine wpList_append_own _ rfl _ _ 36 rfl (G + 1) 5 i0 (.int .u8 0) 1 1 Try.underlying36 hi0 hz0 hz1 hz2 rfl (by decide) _ _ _ rfl (HW1 _).out ⟨wr.heap.size, 0, none⟩ 1 1 [_] rfl rfl (cell_one_new _ _ _) (one_cells _ _) HO2.out HO3.out (alloc_ge HO4.out) ?_; intro v' w1 hown' hgrow _)
              obtain ⟨a9, c9, rfl⟩ := own_form hown'
              have HB9 := Lib.hid ((HBE.out.alloc HO4.out _).grown hgrow (alloc_ge HO4.out) HOB.out)
              have HO9 := Lib.hid (own_snocB (x := dig8 (g % 10)) HT'.out hown' (by rw [dig8_nat (Nat.mod_lt _ (by decide))]; have := HZ.out; omega))
              clear hown' hgrow HW1
              go_wp2
              go_roundw
              case rel => exact ⟨t + m + 1, m + 1, g / 10, c9, a9, _, rfl, by have := HZ.out; exact congrArg _ (by omega), by go_num, by omega, by rw [List.length_append, HT'.out]; rfl, HNX.out, HO9.out, HB9.out⟩
              case measure => simp [intOf]; omega
          · have hq : (¬ (m : Int) < 9) ∨ ((m : Int) < 9 ∧ k6 = 0 ∧ ¬ 0 < z) := by omega
            have HDN := Lib.hid (show m = 9 ∨ (L' = 0 ∧ g = 0) by
              rcases hq with h | ⟨_, h1, h2⟩
              · exact .inl (by omega)
              · refine .inr ⟨?_, by have := HZ.out; omega⟩
                rcases Nat.eq_zero_or_pos L' with h | h
                · exact h
                · exact absurd (HKL.out.2 h) (by omega))
            have HFT := Lib.hid (HIN.out.done HDN.out)
            have HMP := Lib.hid (show 0 < m by
              rcases Nat.eq_zero_or_pos m with h | h
              · subst h
                rcases HDN.out with h9 | ⟨h1, h2⟩
                · omega
                · have h3 := HIN.out.2.2
                  rw [h1, h2, Nat.zero_mul, rdz_zero, List.append_nil] at h3
                  have h4 := congrArg List.length h3
                  have h5 := congrArg List.length HTL.out
                  rw [HT'.out] at h4
                  rw [List.length_append, HT.out, ← h4, rdz_pos HL0.out, List.length_cons] at h5
                  omega
              · exact h)
            have HBK9 := Lib.hid (show Blk .u32 wr G 132 (digs 4294967296 L' ++ (r.drop k6 ++ Tl)) from (HBE.out.block G (by omega)).trans HB6.out)
            have HBL9 := Lib.hid (HBL5.out.trans ⟨HBE.out.os, HBE.out.tape, HBE.out.output, HBE.out.size, fun k hk => HBE.out.block k (by omega)⟩)
            have hk6' : k6 ≤ n := by omega
            clear hgo
            rcases hq with hq1 | ⟨hq1, rfl, hq3⟩
            all_goals
              go_wp2
              go_roundw
              case rel => exact ⟨t + m, _, L', c', A', T', _, rfl, rfl, hk6', HTN.out, HT'.out, HFT.out, HK6.out, HOW.out, HBK9.out, HBL9.out⟩
              case measure => have := HTN.out; have := HMP.out; simp [lenOf]; omega
end Go.Proofs.Ytfmccalkfagafaa

namespace Go.Proofs.Ytfmccalkfagafaa
open Go.RowKit
attribute [local go_sem ↓] Go.wp_at_zero Go.wp_at_succ
attribute [local go_sem] str_get

/-- Zeros laid in front. -/
def Pad (d : Nat) (S : List UInt8) : Prop := S.length ≤ 4 ∧ ∃ k, S = List.replicate k (dig8 0) ++ dec d
theorem Pad.start {d : Nat} (h : d < 10000) : Pad d (dec d) := ⟨(dec_len (by decide)).2 h, 0, rfl⟩
theorem Pad.next {d : Nat} {S : List UInt8} (h : Pad d S) (hl : S.length < 4) : Pad d (48 :: S) := by
  obtain ⟨_, k, rfl⟩ := h
  exact ⟨by rw [List.length_cons]; omega, k + 1, rfl⟩
theorem Pad.done {d : Nat} {S : List UInt8} (h : Pad d S) (hd : d < 10000) (hl : ¬ S.length < 4) : S = pad4 d := by
  obtain ⟨h4, k, rfl⟩ := h
  rw [← pad4_dec hd]
  rw [List.length_append, List.length_replicate] at hl h4
  rw [show 4 - (dec d).length = k by omega]
end Go.Proofs.Ytfmccalkfagafaa

namespace Go.Proofs.Ytfmccalkfagafaa
open Go.RowKit
attribute [local go_sem ↓] Go.wp_at_zero Go.wp_at_succ

theorem two_ten (q e : Nat) (h : e ≤ 93 * q) : 2 ^ e ≤ 10 ^ (28 * q) := by
  refine Nat.le_trans (Nat.pow_le_pow_right (by decide) h) ?_
  rw [Nat.pow_mul, Nat.pow_mul]
  exact Nat.pow_le_pow_left (by decide) q
/-- Twice the bound of the range. -/
def big : Nat := 2 ^ (32 * limE + 1)
theorem lim_two : lim = 2 ^ (32 * limE) := by
  unfold lim
  rw [Nat.pow_mul]
theorem big_lim : big = 2 * lim := by
  rw [lim_two, big, Nat.pow_succ, Nat.mul_comm]
theorem dec_short {v k : Nat} (q : Nat) (h : v < 2 ^ k) (hk : k ≤ 93 * q) (hq : 0 < 28 * q) : (dec v).length ≤ 28 * q := (dec_len hq).2 (Nat.lt_of_lt_of_le h (two_ten q k hk))
theorem decI_short {x : Int} (h : x.natAbs < big) : (decI x).length ≤ 5000 := by
  have h1 : (dec x.natAbs).length ≤ 28 * 177 := dec_short 177 h (by decide) (by decide)
  unfold decI
  split
  · rw [List.length_cons]; omega
  · omega
theorem lim_big {x : Int} (h : x.natAbs < lim) : x.natAbs < big := by
  rw [big_lim]; omega
end Go.Proofs.Ytfmccalkfagafaa

namespace Go.Proofs.Ytfmccalkfagafaa
open Go.RowKit
attribute [local go_sem ↓] Go.wp_at_zero Go.wp_at_succ

theorem bt {a b c : World} (h1 : Below a.heap.size a b) (h2 : Below b.heap.size b c) : Below a.heap.size a c := h1.trans (h2.mono h1.size)
end Go.Proofs.Ytfmccalkfagafaa

namespace Go.Proofs.Ytfmccalkfagafaa
open Go.RowKit
attribute [local go_sem ↓] Go.wp_at_zero Go.wp_at_succ
/-- The state of the loop of Power. -/
def PowInv (k q P Q : Nat) : Prop := P * Q ^ q = 2 ^ k ∧ 0 < P ∧ 0 < Q ∧ Q ≤ 2 ^ (2 * k + 1)
theorem PowInv.start (k : Nat) : PowInv k k 1 2 := ⟨by rw [Nat.one_mul], by decide, by decide, by
  rw [Nat.pow_succ]
  have : 0 < 2 ^ (2 * k) := Nat.pow_pos (by decide)
  omega⟩
theorem PowInv.le {k q P Q : Nat} (h : PowInv k q P Q) : P ≤ 2 ^ k ∧ (0 < q → Q ≤ 2 ^ k) := by
  obtain ⟨h1, h2, h3, _⟩ := h
  have hp : 0 < Q ^ q := Nat.pow_pos h3
  refine ⟨?_, fun hq => ?_⟩
  · rw [← h1]; exact Nat.le_mul_of_pos_right _ hp
  · rw [← h1]
    obtain ⟨r, rfl⟩ : ∃ r, q = r + 1 := ⟨q - 1, by omega⟩
    rw [Nat.pow_succ]
    calc Q ≤ Q ^ r * Q := Nat.le_mul_of_pos_left _ (Nat.pow_pos h3)
      _ ≤ P * (Q ^ r * Q) := Nat.le_mul_of_pos_left _ h2
theorem PowInv.sq {k q P Q : Nat} (h : PowInv k q P Q) (hq : 0 < q) : Q * Q ≤ 2 ^ (2 * k + 1) := by
  have h1 := h.le.2 hq
  have h2 : Q * Q ≤ 2 ^ k * 2 ^ k := Nat.mul_le_mul h1 h1
  rw [← Nat.pow_add] at h2
  exact Nat.le_trans h2 (Nat.pow_le_pow_right (by decide) (by omega))
theorem PowInv.odd {k q P Q : Nat} (h : PowInv k q P Q) (hq : q % 2 = 1) : PowInv k (q / 2) (P * Q) (Q * Q) := by
  have hs := h.sq (by omega)
  obtain ⟨h1, h2, h3, _⟩ := h
  refine ⟨?_, Nat.mul_pos h2 h3, Nat.mul_pos h3 h3, hs⟩
  rw [← h1, ← Nat.pow_two, ← Nat.pow_mul, Nat.mul_assoc, ← Nat.pow_succ', show (2 * (q / 2)).succ = q by omega]
theorem RNo.box {ok : Nat → Prop} {w : World} {s : Bool} {A : Option Addr} {n c : Nat} {x : Int} {t : TypeId} {B : Nat} {z0 z1 : Value} (h : RNo ok w s A n c x) (hp : P2 t w B z0 z1) (h0 : isI z0 = false) (h1 : isI z1 = false) (u0 u1 : Value) : RNo ok ((w.setCell ⟨B, 0, none⟩ u0).setCell ⟨B, 1, none⟩ u1) s A n c x := ⟨h.1, h.2.1, h.2.2.box hp h0 h1 u0 u1⟩
end Go.Proofs.Ytfmccalkfagafaa

namespace Go.Proofs.Ytfmccalkfagafaa
open Go.RowKit
attribute [local go_sem ↓] Go.wp_at_zero Go.wp_at_succ
end Go.Proofs.Ytfmccalkfagafaa

namespace Go.Proofs.Ytfmccalkfagafaa
open Go.RowKit
attribute [local go_sem ↓] Go.wp_at_zero Go.wp_at_succ
/-- A slice of ints that came in, all of them ints. -/
def Got (w : World) (sv : Value) (xs : List Int) : Prop := Src .i64 w sv xs ∧ xs.length ≤ maxLen ∧ ∀ x ∈ xs, (Lit.int .i64 x).wf = true
theorem src_new {k : IntKind} {w w' : World} {sv : Value} {zs : List Int} (h : Src k w sv zs) (hb : Below w.heap.size w w') : Src k w' sv zs := by
  rcases h with h | ⟨ad, c, h1, h2, h3⟩
  · exact .inl h
  · exact .inr ⟨ad, c, h1, h2, fun j v hj => (hb.cell (World.block_lt_of_cell? w _ (h3 j v hj))).trans (h3 j v hj)⟩
theorem Got.new {w w' : World} {sv : Value} {zs : List Int} (h : Got w sv zs) (hb : Below w.heap.size w w') : Got w' sv zs := ⟨src_new h.1 hb, h.2⟩
theorem two_lim {x : Int} {k : Nat} (h : x.natAbs < 2 ^ k) (hk : k ≤ 32 * limE) : x.natAbs < lim := by
  rw [lim_two]
  exact Nat.lt_of_lt_of_le h (Nat.pow_le_pow_right (by decide) hk)
theorem sum_two {x y : Int} {k : Nat} (hx : x.natAbs < 2 ^ k) (hy : y.natAbs < 2 ^ k) : (x + y).natAbs < 2 ^ (k + 1) ∧ (x - y).natAbs < 2 ^ (k + 1) := by
  rw [Nat.pow_succ]
  generalize 2 ^ k = B at *
  omega
/-- 2 to a power, never evaluated. -/
def B2 (k : Nat) : Nat := 2 ^ k
theorem B2.le {x : Int} {j k : Nat} (h : x.natAbs < B2 j) (hk : j ≤ k) : x.natAbs < B2 k := Nat.lt_of_lt_of_le h (Nat.pow_le_pow_right (by decide) hk)
theorem B2.add {x y : Int} {k : Nat} (hx : x.natAbs < B2 k) (hy : y.natAbs < B2 k) : (x + y).natAbs < B2 (k + 1) := (sum_two hx hy).1
theorem B2.neg {x : Int} {k : Nat} (hx : x.natAbs < B2 k) : (-x).natAbs < B2 k := by rw [Int.natAbs_neg]; exact hx
theorem B2.lim {x : Int} {k : Nat} (h : x.natAbs < B2 k) (hk : k ≤ 32 * limE) : x.natAbs < lim := two_lim h hk
theorem nm_world {B : Nat} {a b : World} (_ : Below B a b) : ∃ v, v = b := ⟨b, rfl⟩
theorem cmpI_same {a b : Int} (h : a = b) : cmpI a b = 0 := by subst h; unfold cmpI; rw [if_neg (by omega), if_neg (by omega)]
theorem cmpI_less {a b : Int} (h : a < b) : cmpI a b = -1 := by unfold cmpI; rw [if_pos h]
theorem cmpI_ge {a : Int} (h : 0 ≤ a) : 0 ≤ cmpI a 0 := by unfold cmpI; rw [if_neg (by omega)]; split <;> omega
end Go.Proofs.Ytfmccalkfagafaa

