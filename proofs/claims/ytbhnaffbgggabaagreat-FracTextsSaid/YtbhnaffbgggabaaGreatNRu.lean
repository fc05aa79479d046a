/- Contract of the reference's Parse. -/
import Derived.Test.YtbhnaffbgggabaaGreatNRs
namespace Go.Proofs.YtbhnaffbgggabaaGreat
open Go.RowKit
attribute [local go_sem ↓] Go.wp_at_zero Go.wp_at_succ
/-- What the reference's Parse returns. -/
def RetNE (x code : Int) (w : World) (e : Ending) (w' : World) : Prop := ∃ neg A n c, e = .returned (.tuple #[.agg #[.bool neg, .slice A n c], .int .i64 code]) ∧ RN w' neg A n c x ∧ Below w.heap.size w w'
theorem RetNE.stored {x code : Int} {w w6 : World} {neg : Bool} {A : Option Addr} {n c B : Nat} {z0 z1 : Value} {t : TypeId} (h : RN w6 neg A n c x) (hp : P2 t w6 B z0 z1) (h0 : isI z0 = false) (h1 : isI z1 = false) (hb : Below w.heap.size w w6) (hB : w.heap.size ≤ B) (u0 u1 : Value) :
  RetNE x code w (.returned (.tuple #[.agg #[.bool neg, .slice A n c], .int .i64 code])) ((w6.setCell ⟨B, 0, none⟩ u0).setCell ⟨B, 1, none⟩ u1) :=
 ⟨neg, A, n, c, rfl, h.box hp h0 h1 u0 u1, below_box hb hB u0 u1⟩
theorem RN.zero0 (w : World) : RN w false none 0 0 0 := ⟨rfl, by rw [Int.natAbs_zero, digs_zero]; rfl, by rw [Int.natAbs_zero, digs_zero]; exact LO.nil⟩
theorem grp_step {S : List UInt8} {e m t : Nat} {o : List Nat} {g : Nat} (ho : o.length = t) (hv : val 10000 o = dval (S.drop e)) (he : S.length = e + 4 * t) (hm : m ≤ e) (hg : g = dval ((S.drop m).take (e - m))) :
  val 10000 (o ++ [g]) = dval (S.drop m) := by
 rw [val_snoc, ho, hv, hg]
 have h1 : S.drop m = (S.drop m).take (e - m) ++ S.drop e := by
  conv => lhs; rw [← List.take_append_drop (e - m) (S.drop m)]
  rw [List.drop_drop, show m + (e - m) = e by omega]
 conv => rhs; rw [h1, dval_append]
 rw [List.length_drop, show S.length - e = 4 * t by omega, Nat.pow_mul, Nat.mul_comm]
 exact Nat.add_comm _ _
theorem grp_lt {S : List UInt8} {m k : Nat} (h : IsDig S) (hk : k ≤ 4) : dval ((S.drop m).take k) < 10000 := by
 have h1 : IsDig ((S.drop m).take k) := fun c hc => h c (List.mem_of_mem_drop (List.mem_of_mem_take hc))
 have h2 := dval_lt h1
 have h3 : ((S.drop m).take k).length ≤ 4 := by rw [List.length_take]; omega
 exact Nat.lt_of_lt_of_le h2 (Nat.pow_le_pow_right (by decide) h3)
theorem grp_in {S : List UInt8} {m i c : Nat} (hm : m ≤ i) (hi : i < S.length) (hc : (S[i]'hi).toNat = 48 + c) : dval ((S.drop m).take (i + 1 - m)) = 10 * dval ((S.drop m).take (i - m)) + c := by
 rw [show i + 1 - m = (i - m) + 1 by omega]
 have hl : i - m < (S.drop m).length := by rw [List.length_drop]; omega
 refine take_dval hl ?_
 rw [List.getElem_drop]
 have e : m + (i - m) = i := by omega
 simp only [e]
 exact hc
attribute [local go_sem] str_get
def dV (mi : Bool) (S : List UInt8) : Int := if isDecB S = true then outV (sgn mi (dval S)) else 0
def dC (mi : Bool) (S : List UInt8) : Int := if isDecB S = true then outC (sgn mi (dval S)) else 2
theorem num_parts {l S : List UInt8} {mi : Bool} (hc : cutB l = mi) (hl : cutL l = S) (h : ¬ (mi = true ∧ (S.getD 0 0).toNat = 48)) (hb : ¬ 5000 < l.length) :
  psV l = dV mi S ∧ psC l = dC mi S := by
 have e : isNum l = isDecB S := by
  unfold isNum
  rw [hc, hl]
  cases mi
  ·simp
  ·have : (S == [48]) = false := by
    rw [beq_eq_false_iff_ne]
    rintro rfl
    exact h ⟨rfl, rfl⟩
   rw [this]; simp
 have e2 : numOf l = sgn mi (dval S) := by unfold numOf; rw [hc, hl]
 unfold psV psC
 rw [if_neg hb, if_neg hb, e, e2]
 exact ⟨rfl, rfl⟩
theorem cut_minus (S : List UInt8) : (ByteArray.mk (45 :: S).toArray).extract 1 (S.length + 1) = ⟨S.toArray⟩ := by
 rw [str_cut]
 congr 2
 simp
theorem d_bad (mi : Bool) {S : List UInt8} (h : isDecB S = false) : dV mi S = 0 ∧ dC mi S = 2 := ⟨by rw [dV, if_neg (by rw [h]; decide)], by rw [dC, if_neg (by rw [h]; decide)]⟩
theorem d_ok (mi : Bool) {S : List UInt8} (h : isDecB S = true) : dV mi S = outV (sgn mi (dval S)) ∧ dC mi S = outC (sgn mi (dval S)) := ⟨by rw [dV, if_pos h], by rw [dC, if_pos h]⟩
set_option maxRecDepth 100000 in
set_option maxHeartbeats 6400000 in
theorem rparse_core (l S : List UInt8) (mi : Bool) (w : World) (hcs : (mi = true ∧ l = 45 :: S) ∨ (mi = false ∧ l = S ∧ ¬ (S.getD 0 0).toNat = 45)) (h0 : 0 < S.length) (hb : ¬ 5000 < l.length) (hz : ¬ ((S.getD 0 0).toNat = 48 ∧ (mi = true ∨ 1 < S.length))) :
  Calls Tryz.prog 124 #[.string ⟨l.toArray⟩] w (RetNE (psV l) (psC l) w) := by
 obtain ⟨i0, hi0, hz0, hz1, hz2⟩ := info_parts int_info
 obtain ⟨W, hW⟩ : ∃ W, w.alloc (.cells #[.bool false, .slice none 0 0] 24) = W := ⟨_, rfl⟩
 have HK := hJ (show Below w.heap.size w W by rw [← hW]; exact (Below.refl _ w).alloc (Nat.le_refl _) _)
 have HP := hJ (show P2 24 W w.heap.size (.bool false) (.slice none 0 0) by rw [← hW]; exact P2.lit _ _ _ _)
 obtain ⟨q0, q1⟩ := HP.out.cells
 have fq0 := HP.out.frozen 0
 have fq1 := HP.out.frozen 1
 have hWS : w.heap.size < W.heap.size := HP.out.lt
 have HNP := hJ (show psV l = dV mi S ∧ psC l = dC mi S by
  refine num_parts ?_ ?_ (fun h => hz ⟨h.2, .inl h.1⟩) hb
  ·rcases hcs with ⟨rfl, rfl⟩ | ⟨rfl, rfl, h⟩
   ·rfl
   ·unfold cutB
    rw [beq_eq_false_iff_ne]
    intro e
    rw [e] at h
    exact h rfl
  ·rcases hcs with ⟨rfl, rfl⟩ | ⟨rfl, rfl, h⟩
   ·rfl
   ·have : cutB l = false := by
     unfold cutB
     rw [beq_eq_false_iff_ne]
     intro e
     rw [e] at h
     exact h rfl
    unfold cutL
    rw [this]; rfl)
 have HDT := hJ (fun hd => isDecB_true (l := S) h0 (fun h => hz ⟨h.1, .inr h.2⟩) hd)
 have hSL : S.length ≤ 5000 := by
  rcases hcs with ⟨_, rfl⟩ | ⟨_, rfl, _⟩
  ·rw [List.length_cons] at hb; omega
  ·omega
 rw [by_at h0] at hcs hz
 have H0 := hJ h0
 have hcases : (mi = true ∧ l = 45 :: S ∧ ¬ ((S[0]'h0).toNat : Int) = 48) ∨ (mi = false ∧ l = S ∧ ¬ ((S[0]'h0).toNat : Int) = 45 ∧ ¬ ((S[0]'h0).toNat : Int) = 48) ∨ (mi = false ∧ l = S ∧ ((S[0]'h0).toNat : Int) = 48 ∧ S.length = 1) := by
  rcases hcs with ⟨rfl, rfl⟩ | ⟨rfl, rfl, h⟩
  ·exact .inl ⟨rfl, rfl, fun e => hz ⟨by omega, .inl rfl⟩⟩
  ·by_cases e : ((l[0]'h0).toNat : Int) = 48
   ·exact .inr (.inr ⟨rfl, rfl, e, by have := fun h => hz ⟨by omega, .inr h⟩; omega⟩)
   ·exact .inr (.inl ⟨rfl, rfl, by omega, e⟩)
 rw [HNP.out.1, HNP.out.2]
 clear hcs hz HNP
 have hb1 : ¬ (5000 : Int) < l.length := by omega
 rcases hcases with ⟨rfl, rfl, g1⟩ | ⟨rfl, hl, g2, g1⟩ | ⟨rfl, hl, g1, g2⟩
 ·have hcut := cut_minus S
  have hb2 : ¬ (5000 : Int) < (S.length : Int) + 1 := by rw [List.length_cons] at hb; omega
  have hb3 : ¬ (S.length : Int) = 0 := by omega
  have hbl : ((S.length : Int) == 0) = false := by rw [beq_eq_false_iff_ne]; omega
  have hB48 : (((S[0]'h0).toNat : Int) == 48) = false := by rw [beq_eq_false_iff_ne]; omega
  clear hb hb1
  go_enter Tryz.func124, Tryz.ntmps124
  go_wp2_with fail
  go_loopw [6] (fun vj wr => ∃ j : Nat, j ≤ S.length ∧ vj = .int .i64 (j : Int) ∧ IsDig (S.take j) ∧ wr = W) (fun vj _ => S.length - (intOf vj).toNat)
  case atStart => exact ⟨0, by omega, rfl, by rw [List.take_zero]; (intro c hc; simp at hc), rfl⟩
  case round =>
   obtain ⟨j, hj, rfl, hd, rfl⟩ := hrel
   obtain ⟨W, rfl⟩ : ∃ W, W = wr := ⟨_, rfl⟩
   have HD := hJ hd
   clear hd
   rcases Nat.lt_or_ge j S.length with hlt | hge
   ·by_cases hq1 : ((S[j]'hlt).toNat : Int) < 48
    ·rw [d_bad true (isDecB_bad hlt (by rw [by_at hlt]; omega)) |>.1, d_bad true (isDecB_bad hlt (by rw [by_at hlt]; omega)) |>.2]
     go_wp2_with fail
     exact bodyPost_ret (results_cell1 rfl _ _ _ _ _ _ _ rfl (HP.out.all (.bool false) (.slice none 0 0)) Tryz.underlying24 rfl N_size) rfl (RetNE.stored (RN.zero0 _) HP.out rfl rfl HK.out (by omega) _ _)
    ·by_cases hq2 : 57 < ((S[j]'hlt).toNat : Int)
     ·rw [d_bad true (isDecB_bad hlt (by rw [by_at hlt]; omega)) |>.1, d_bad true (isDecB_bad hlt (by rw [by_at hlt]; omega)) |>.2]
      go_wp2_with fail
      exact bodyPost_ret (results_cell1 rfl _ _ _ _ _ _ _ rfl (HP.out.all (.bool false) (.slice none 0 0)) Tryz.underlying24 rfl N_size) rfl (RetNE.stored (RN.zero0 _) HP.out rfl rfl HK.out (by omega) _ _)
     ·have HN := hJ (isDig_step HD.out hlt hq1 hq2)
      go_wp2_with fail
      go_roundw
      case rel => exact ⟨j + 1, by omega, by go_num, HN.out, by first | rfl | trivial⟩
      case measure => simp [intOf]; omega
   ·obtain rfl : S.length = j := by omega
    have HDG := hJ (show IsDig S by have := HD.out; rwa [List.take_length] at this)
    have HOK := hJ (d_ok true (HDT.out HDG.out))
    clear HD
    go_wp2_with fail
    go_loopw [7, 8] (fun vd ve wr => ∃ (t : Nat) (o : List Nat), ve = .int .i64 ((S.length : Int) - 4 * (t : Int)) ∧ 4 * t < S.length + 4 ∧ o.length = t ∧ Dig 10000 o ∧ val 10000 o = dval (S.drop (S.length - 4 * t)) ∧ wr.ownsRow W.heap.size 3 1 vd t (vs .i64 (nI o)) ∧ Below W.heap.size W wr) (fun _ ve _ => (intOf ve).toNat)
    case atStart => exact ⟨0, [], by simp, by omega, rfl, dig_nil, by rw [Nat.mul_zero, Nat.sub_zero, List.drop_length]; rfl, World.ownsRow_nil _ _ _ _, Below.refl _ _⟩
    case round =>
     obtain ⟨t, o, rfl, ht, hol, hod, hov, hown, hbel⟩ := hrel
     have HOL := hJ hol
     have HOD := hJ hod
     have HOV := hJ hov
     have HW := hJ hown
     have HBB := hJ hbel
     clear hol hod hov hown hbel
     obtain ⟨E, hE⟩ : ∃ E : Int, (S.length : Int) - 4 * (t : Int) = E := ⟨_, rfl⟩
     rw [hE]
     by_cases hpos : 0 < E
     ·obtain ⟨e, he⟩ : ∃ e : Nat, E = (e : Int) := ⟨E.toNat, by omega⟩
      have hle : S.length = e + 4 * t := by omega
      obtain ⟨m, hm⟩ : ∃ m, e - 4 = m := ⟨_, rfl⟩
      have hmx : max 0 (E - 4) = (m : Int) := by omega
      have hmi : (m : Int) = max 0 (E - 4) := hmx.symm
      have hme : m ≤ e := by omega
      have hm4 : e - m ≤ 4 := by omega
      have hE1 : E ≤ 5000 := by omega
      have HEE := hJ hE
      have HE := hJ he
      have HLE := hJ hle
      clear hE
      subst he
      have hmcase : (e ≤ 4 ∧ m = 0) ∨ (4 < e ∧ m + 4 = e) := by omega
      have w1 : IntKind.i64.wrap ((e : Int) - 4) = (e : Int) - 4 := IntWalk.i64_in _ (by omega)
      clear hle hmx hmi hm
      obtain ⟨wo, rfl⟩ : ∃ W, W = wr := ⟨_, rfl⟩
      have key : (e ≤ 4 ∧ m = 0 ∧ ((e : Int) - 4 ≤ 0)) ∨ (0 < m ∧ e = m + 4) := by
       rcases hmcase with ⟨h1, h2⟩ | ⟨h1, h2⟩
       ·exact .inl ⟨h1, h2, by omega⟩
       ·exact .inr (by omega)
      clear hmcase
      rcases key with ⟨k1, rfl, k2⟩ | ⟨hm0, rfl⟩
      ·skip
       go_wp2_with fail
       go_loopw [9, 10] (fun vv vi wr => ∃ (i : Nat), 0 ≤ i ∧ i ≤ e ∧ vi = .int .i64 (i : Int) ∧ vv = .int .i64 ((dval ((S.drop (0)).take (i - (0))) : Nat) : Int) ∧ wr = wo) (fun _ vi _ => (e) - (intOf vi).toNat)
       case atStart => exact ⟨0, Nat.le_refl _, by omega, by first | rfl | (simp; done) | (simp; omega), by rw [Nat.sub_self]; rfl, rfl⟩
       case round =>
        obtain ⟨i, hi1, hi2, rfl, rfl, rfl⟩ := hrel
        obtain ⟨wo, rfl⟩ : ∃ W, W = wr := ⟨_, rfl⟩
        have hil : i ≤ S.length := by have := HLE.out; omega
        obtain ⟨g, hg⟩ : ∃ g, dval ((S.drop (0)).take (i - (0))) = g := ⟨_, rfl⟩
        have HGG := hJ hg
        have hg4 : g < 10000 := by rw [← hg]; exact grp_lt HDG.out (by omega)
        rw [hg]
        clear hg
        by_cases hie : i < e
        ·have hlt : i < S.length := by have := HLE.out; omega
         obtain ⟨cc, hc9, hcc⟩ := dig_byte HDG.out hlt
         have HN := hJ (grp_in (m := 0) hi1 hlt hcc)
         have hcI : ((S[i]'hlt).toNat : Int) = 48 + (cc : Int) := by omega
         have g3 : dval ((S.drop (0)).take (i + 1 - (0))) < 10000 := grp_lt HDG.out (by omega)
         obtain ⟨y, hy⟩ : ∃ y, dval ((S.drop (0)).take (i + 1 - (0))) = y := ⟨_, rfl⟩
         have HY := hJ hy
         have hyv : y = 10 * g + cc := by rw [← hy, HN.out, HGG.out]
         rw [hy] at g3
         clear hy hcc
         go_wp2_with fail
         go_roundw
         case rel => exact ⟨i + 1, by omega, by omega, by go_num, by rw [HY.out]; go_num, by first | rfl | trivial⟩
         case measure => simp [intOf]; omega
        ·obtain rfl : e = i := by omega
         have HGV := hJ (grp_step (m := 0) HOL.out (by have := HOV.out; have h2 := HLE.out; rw [show S.length - 4 * t = e by omega] at this; exact this) HLE.out (by omega) HGG.out.symm)
         have HO2 := hJ (show t + 1 ≤ maxLen by unfold maxLen; omega)
         have HO3 := hJ (show (t + 1) * 8 ≤ 140737488355328 by omega)
         have HO4 := hJ HBB.out.size
         have HW1 := fun o => hJ (HW.out.alloc o)
         go_wp2_with (at_builtin; refine wpList_append_own _ rfl _ _ 22 rfl W.heap.size 3 i0 (.int .i64 0) 1 8 Tryz.underlying22 hi0 hz0 hz1 hz2 rfl (by decide) _ _ _ rfl (HW1 _).out ⟨wo.heap.size, 0, none⟩ 1 1 [_] rfl rfl (cell_one_new _ _ _) (one_cells _ _) HO2.out HO3.out (alloc_ge HO4.out) ?_; intro v' w1 hown' hgrow _)
         have HB7 := hJ (show Below W.heap.size W w1 from (HBB.out.alloc HO4.out _).grown hgrow (alloc_ge HO4.out) (own_block_ge (HW1 (.cells #[] 0)).out))
         have HOW := hJ (own_snocN HOL.out hown' rfl)
         clear hown' hgrow
         go_roundw
         case rel => exact ⟨t + 1, o ++ [g], by have := HLE.out; first | go_num | (simp; omega), by have := HLE.out; omega, by rw [List.length_append, HOL.out]; rfl, dig_snoc HOD.out hg4, by have := HLE.out; rw [HGV.out, show S.length - 4 * (t + 1) = 0 by omega], HOW.out, HB7.out⟩
         case measure => simp [intOf]; omega
      ·clear w1
       have w2 : IntKind.i64.wrap ((m : Int) + 4 - 4) = (m : Int) := by rw [Int.add_sub_cancel]; exact IntWalk.i64_in _ (by omega)
       have w4 : IntKind.i64.wrap (m : Int) = (m : Int) := IntWalk.i64_in _ (by omega)
       have w5 : (0 : Int) < (m : Int) := by omega
       have w3 : ¬ (m : Int) < 0 := by omega
       go_wp2_with fail
       go_loopw [9, 10] (fun vv vi wr => ∃ (i : Nat), m ≤ i ∧ i ≤ (m + 4) ∧ vi = .int .i64 (i : Int) ∧ vv = .int .i64 ((dval ((S.drop (m)).take (i - (m))) : Nat) : Int) ∧ wr = wo) (fun _ vi _ => ((m + 4)) - (intOf vi).toNat)
       case atStart => exact ⟨m, Nat.le_refl _, by omega, by first | rfl | (simp; done) | (simp; omega), by rw [Nat.sub_self]; rfl, rfl⟩
       case round =>
        obtain ⟨i, hi1, hi2, rfl, rfl, rfl⟩ := hrel
        obtain ⟨wo, rfl⟩ : ∃ W, W = wr := ⟨_, rfl⟩
        have hil : i ≤ S.length := by have := HLE.out; omega
        obtain ⟨g, hg⟩ : ∃ g, dval ((S.drop (m)).take (i - (m))) = g := ⟨_, rfl⟩
        have HGG := hJ hg
        have hg4 : g < 10000 := by rw [← hg]; exact grp_lt HDG.out (by omega)
        rw [hg]
        clear hg
        by_cases hie : i < (m + 4)
        ·have hlt : i < S.length := by have := HLE.out; omega
         obtain ⟨cc, hc9, hcc⟩ := dig_byte HDG.out hlt
         have HN := hJ (grp_in (m := m) hi1 hlt hcc)
         have hcI : ((S[i]'hlt).toNat : Int) = 48 + (cc : Int) := by omega
         have g3 : dval ((S.drop (m)).take (i + 1 - (m))) < 10000 := grp_lt HDG.out (by omega)
         obtain ⟨y, hy⟩ : ∃ y, dval ((S.drop (m)).take (i + 1 - (m))) = y := ⟨_, rfl⟩
         have HY := hJ hy
         have hyv : y = 10 * g + cc := by rw [← hy, HN.out, HGG.out]
         rw [hy] at g3
         clear hy hcc
         go_wp2_with fail
         go_roundw
         case rel => exact ⟨i + 1, by omega, by omega, by go_num, by rw [HY.out]; go_num, by first | rfl | trivial⟩
         case measure => simp [intOf]; omega
        ·obtain rfl : i = m + 4 := by omega
         have HGV := hJ (grp_step (m := m) HOL.out (by have := HOV.out; have h2 := HLE.out; rw [show S.length - 4 * t = (m + 4) by omega] at this; exact this) HLE.out (by omega) HGG.out.symm)
         have HO2 := hJ (show t + 1 ≤ maxLen by unfold maxLen; omega)
         have HO3 := hJ (show (t + 1) * 8 ≤ 140737488355328 by omega)
         have HO4 := hJ HBB.out.size
         have HW1 := fun o => hJ (HW.out.alloc o)
         go_wp2_with (at_builtin; refine wpList_append_own _ rfl _ _ 22 rfl W.heap.size 3 i0 (.int .i64 0) 1 8 Tryz.underlying22 hi0 hz0 hz1 hz2 rfl (by decide) _ _ _ rfl (HW1 _).out ⟨wo.heap.size, 0, none⟩ 1 1 [_] rfl rfl (cell_one_new _ _ _) (one_cells _ _) HO2.out HO3.out (alloc_ge HO4.out) ?_; intro v' w1 hown' hgrow _)
         have HB7 := hJ (show Below W.heap.size W w1 from (HBB.out.alloc HO4.out _).grown hgrow (alloc_ge HO4.out) (own_block_ge (HW1 (.cells #[] 0)).out))
         have HOW := hJ (own_snocN HOL.out hown' rfl)
         clear hown' hgrow
         go_roundw
         case rel => exact ⟨t + 1, o ++ [g], by have := HLE.out; first | go_num | (simp; omega), by have := HLE.out; omega, by rw [List.length_append, HOL.out]; rfl, dig_snoc HOD.out hg4, by have := HLE.out; rw [HGV.out, show S.length - 4 * (t + 1) = m by omega], HOW.out, HB7.out⟩
         case measure => simp [intOf]; omega
     ·have hEn : E ≤ 0 := by omega
      have HVS := hJ (show val 10000 o = dval S by
       have := HOV.out
       rw [show S.length - 4 * t = 0 by omega, List.drop_zero] at this
       exact this)
      obtain ⟨a5, c5, rfl⟩ := own_form HW.out
      have HLI := hJ (LI.own HW.out)
      have htl : t ≤ 5000 := by omega
      clear hE
      go_wp2_with fail
      refine (normal_any true o a5 t c5 wr HOD.out HLI.out (by omega)).mono ?_
      rw [HVS.out]
      obtain ⟨X, hX⟩ : ∃ X, sgn true (dval S) = X := ⟨_, rfl⟩
      rw [hX]
      rintro e6 w6 ⟨s6, A6, n6, c6, rfl, hr6, hb6⟩
      have hn6 : n6 ≤ 900000 := by
       have h2 := hr6.2.1
       rw [← hX, sgn_abs, ← HVS.out] at h2
       have h3 := digs_len9 (B := 10000) (by decide) HOD.out
       rw [HOL.out] at h3
       omega
      obtain ⟨x6, hx6⟩ := nmz (w6.alloc (.cells #[.bool s6, .slice A6 n6 c6] 24))
      have HB6 := hJ (show Below W.heap.size W x6 by rw [← hx6]; exact (bt HBB.out hb6).alloc (bt HBB.out hb6).size _)
      have HQ6 := hJ (show P2 24 x6 w6.heap.size (.bool s6) (.slice A6 n6 c6) by rw [← hx6]; exact P2.lit _ _ _ _)
      have HR6 := hJ (show RN x6 s6 A6 n6 c6 X by rw [← hx6]; exact hr6.new ((Below.refl _ _).alloc (Nat.le_refl _) _))
      obtain ⟨p0, p1⟩ := HQ6.out.cells
      clear hr6 hb6
      go_wp2_with fail
      refine (fits_any X s6 A6 n6 c6 x6 HR6.out hn6).mono ?_
      have hfit : (decide (X.natAbs < lim) = true ∧ outV X = X ∧ outC X = 0) ∨ (decide (X.natAbs < lim) = false ∧ outV X = 0 ∧ outC X = 4) := by
       by_cases h : X.natAbs < lim
       ·exact .inl ⟨decide_eq_true h, if_pos h, if_pos h⟩
       ·exact .inr ⟨decide_eq_false h, if_neg h, if_neg h⟩
      rcases hfit with ⟨h1, h2, h3⟩ | ⟨h1, h2, h3⟩
      all_goals
       have HV2 := hJ ((congrArg outV hX).trans h2)
       have HC2 := hJ ((congrArg outC hX).trans h3)
       rw [h1]
       clear h1 h2 h3
       rintro e7 w7 ⟨rfl, hb7⟩
       have HB7 := hJ (bt HB6.out hb7)
       have HP7 := hJ (HP.out.new HB7.out)
       have HR7 := hJ (HR6.out.new hb7)
       have HK7 := hJ (bt HK.out HB7.out)
       obtain ⟨p0, p1⟩ := (HQ6.out.new hb7).cells
       obtain ⟨z0, z1⟩ := HP7.out.cells
       have f0 := HP7.out.frozen 0
       have f1 := HP7.out.frozen 1
       clear hb7
       go_wp2_with fail
       rw [HOK.out.1, HOK.out.2, HV2.out, HC2.out]
      ·exact bodyPost_ret (results_cell1 rfl _ _ _ _ _ _ _ rfl (HP7.out.all (.bool s6) (.slice A6 n6 c6)) Tryz.underlying24 rfl N_size) rfl (RetNE.stored HR7.out HP7.out rfl rfl HK7.out (by omega) _ _)
      ·exact bodyPost_ret (results_cell1 rfl _ _ _ _ _ _ _ rfl (HP7.out.all (.bool false) (.slice none 0 0)) Tryz.underlying24 rfl N_size) rfl (RetNE.stored (RN.zero0 _) HP7.out rfl rfl HK7.out (by omega) _ _)
 ·obtain rfl : S = l := hl.symm
  have hb2 : ¬ (S.length : Int) = 0 := by omega
  have hbl : ((S.length : Int) == 0) = false := by rw [beq_eq_false_iff_ne]; omega
  have hB48 : (((S[0]'h0).toNat : Int) == 48) = false := by rw [beq_eq_false_iff_ne]; omega
  have hB45 : (((S[0]'h0).toNat : Int) == 45) = false := by rw [beq_eq_false_iff_ne]; omega
  clear hb
  go_enter Tryz.func124, Tryz.ntmps124
  go_wp2_with fail
  go_loopw [6] (fun vj wr => ∃ j : Nat, j ≤ S.length ∧ vj = .int .i64 (j : Int) ∧ IsDig (S.take j) ∧ wr = W) (fun vj _ => S.length - (intOf vj).toNat)
  case atStart => exact ⟨0, by omega, rfl, by rw [List.take_zero]; (intro c hc; simp at hc), rfl⟩
  case round =>
   obtain ⟨j, hj, rfl, hd, rfl⟩ := hrel
   obtain ⟨W, rfl⟩ : ∃ W, W = wr := ⟨_, rfl⟩
   have HD := hJ hd
   clear hd
   rcases Nat.lt_or_ge j S.length with hlt | hge
   ·by_cases hq1 : ((S[j]'hlt).toNat : Int) < 48
    ·rw [d_bad false (isDecB_bad hlt (by rw [by_at hlt]; omega)) |>.1, d_bad false (isDecB_bad hlt (by rw [by_at hlt]; omega)) |>.2]
     go_wp2_with fail
     exact bodyPost_ret (results_cell1 rfl _ _ _ _ _ _ _ rfl (HP.out.all (.bool false) (.slice none 0 0)) Tryz.underlying24 rfl N_size) rfl (RetNE.stored (RN.zero0 _) HP.out rfl rfl HK.out (by omega) _ _)
    ·by_cases hq2 : 57 < ((S[j]'hlt).toNat : Int)
     ·rw [d_bad false (isDecB_bad hlt (by rw [by_at hlt]; omega)) |>.1, d_bad false (isDecB_bad hlt (by rw [by_at hlt]; omega)) |>.2]
      go_wp2_with fail
      exact bodyPost_ret (results_cell1 rfl _ _ _ _ _ _ _ rfl (HP.out.all (.bool false) (.slice none 0 0)) Tryz.underlying24 rfl N_size) rfl (RetNE.stored (RN.zero0 _) HP.out rfl rfl HK.out (by omega) _ _)
     ·have HN := hJ (isDig_step HD.out hlt hq1 hq2)
      go_wp2_with fail
      go_roundw
      case rel => exact ⟨j + 1, by omega, by go_num, HN.out, by first | rfl | trivial⟩
      case measure => simp [intOf]; omega
   ·obtain rfl : S.length = j := by omega
    have HDG := hJ (show IsDig S by have := HD.out; rwa [List.take_length] at this)
    have HOK := hJ (d_ok false (HDT.out HDG.out))
    clear HD
    go_wp2_with fail
    go_loopw [7, 8] (fun vd ve wr => ∃ (t : Nat) (o : List Nat), ve = .int .i64 ((S.length : Int) - 4 * (t : Int)) ∧ 4 * t < S.length + 4 ∧ o.length = t ∧ Dig 10000 o ∧ val 10000 o = dval (S.drop (S.length - 4 * t)) ∧ wr.ownsRow W.heap.size 3 1 vd t (vs .i64 (nI o)) ∧ Below W.heap.size W wr) (fun _ ve _ => (intOf ve).toNat)
    case atStart => exact ⟨0, [], by simp, by omega, rfl, dig_nil, by rw [Nat.mul_zero, Nat.sub_zero, List.drop_length]; rfl, World.ownsRow_nil _ _ _ _, Below.refl _ _⟩
    case round =>
     obtain ⟨t, o, rfl, ht, hol, hod, hov, hown, hbel⟩ := hrel
     have HOL := hJ hol
     have HOD := hJ hod
     have HOV := hJ hov
     have HW := hJ hown
     have HBB := hJ hbel
     clear hol hod hov hown hbel
     obtain ⟨E, hE⟩ : ∃ E : Int, (S.length : Int) - 4 * (t : Int) = E := ⟨_, rfl⟩
     rw [hE]
     by_cases hpos : 0 < E
     ·obtain ⟨e, he⟩ : ∃ e : Nat, E = (e : Int) := ⟨E.toNat, by omega⟩
      have hle : S.length = e + 4 * t := by omega
      obtain ⟨m, hm⟩ : ∃ m, e - 4 = m := ⟨_, rfl⟩
      have hmx : max 0 (E - 4) = (m : Int) := by omega
      have hmi : (m : Int) = max 0 (E - 4) := hmx.symm
      have hme : m ≤ e := by omega
      have hm4 : e - m ≤ 4 := by omega
      have hE1 : E ≤ 5000 := by omega
      have HEE := hJ hE
      have HE := hJ he
      have HLE := hJ hle
      clear hE
      subst he
      have hmcase : (e ≤ 4 ∧ m = 0) ∨ (4 < e ∧ m + 4 = e) := by omega
      have w1 : IntKind.i64.wrap ((e : Int) - 4) = (e : Int) - 4 := IntWalk.i64_in _ (by omega)
      clear hle hmx hmi hm
      obtain ⟨wo, rfl⟩ : ∃ W, W = wr := ⟨_, rfl⟩
      have key : (e ≤ 4 ∧ m = 0 ∧ ((e : Int) - 4 ≤ 0)) ∨ (0 < m ∧ e = m + 4) := by
       rcases hmcase with ⟨h1, h2⟩ | ⟨h1, h2⟩
       ·exact .inl ⟨h1, h2, by omega⟩
       ·exact .inr (by omega)
      clear hmcase
      rcases key with ⟨k1, rfl, k2⟩ | ⟨hm0, rfl⟩
      ·skip
       go_wp2_with fail
       go_loopw [9, 10] (fun vv vi wr => ∃ (i : Nat), 0 ≤ i ∧ i ≤ e ∧ vi = .int .i64 (i : Int) ∧ vv = .int .i64 ((dval ((S.drop (0)).take (i - (0))) : Nat) : Int) ∧ wr = wo) (fun _ vi _ => (e) - (intOf vi).toNat)
       case atStart => exact ⟨0, Nat.le_refl _, by omega, by first | rfl | (simp; done) | (simp; omega), by rw [Nat.sub_self]; rfl, rfl⟩
       case round =>
        obtain ⟨i, hi1, hi2, rfl, rfl, rfl⟩ := hrel
        obtain ⟨wo, rfl⟩ : ∃ W, W = wr := ⟨_, rfl⟩
        have hil : i ≤ S.length := by have := HLE.out; omega
        obtain ⟨g, hg⟩ : ∃ g, dval ((S.drop (0)).take (i - (0))) = g := ⟨_, rfl⟩
        have HGG := hJ hg
        have hg4 : g < 10000 := by rw [← hg]; exact grp_lt HDG.out (by omega)
        rw [hg]
        clear hg
        by_cases hie : i < e
        ·have hlt : i < S.length := by have := HLE.out; omega
         obtain ⟨cc, hc9, hcc⟩ := dig_byte HDG.out hlt
         have HN := hJ (grp_in (m := 0) hi1 hlt hcc)
         have hcI : ((S[i]'hlt).toNat : Int) = 48 + (cc : Int) := by omega
         have g3 : dval ((S.drop (0)).take (i + 1 - (0))) < 10000 := grp_lt HDG.out (by omega)
         obtain ⟨y, hy⟩ : ∃ y, dval ((S.drop (0)).take (i + 1 - (0))) = y := ⟨_, rfl⟩
         have HY := hJ hy
         have hyv : y = 10 * g + cc := by rw [← hy, HN.out, HGG.out]
         rw [hy] at g3
         clear hy hcc
         go_wp2_with fail
         go_roundw
         case rel => exact ⟨i + 1, by omega, by omega, by go_num, by rw [HY.out]; go_num, by first | rfl | trivial⟩
         case measure => simp [intOf]; omega
        ·obtain rfl : e = i := by omega
         have HGV := hJ (grp_step (m := 0) HOL.out (by have := HOV.out; have h2 := HLE.out; rw [show S.length - 4 * t = e by omega] at this; exact this) HLE.out (by omega) HGG.out.symm)
         have HO2 := hJ (show t + 1 ≤ maxLen by unfold maxLen; omega)
         have HO3 := hJ (show (t + 1) * 8 ≤ 140737488355328 by omega)
         have HO4 := hJ HBB.out.size
         have HW1 := fun o => hJ (HW.out.alloc o)
         go_wp2_with (at_builtin; refine wpList_append_own _ rfl _ _ 22 rfl W.heap.size 3 i0 (.int .i64 0) 1 8 Tryz.underlying22 hi0 hz0 hz1 hz2 rfl (by decide) _ _ _ rfl (HW1 _).out ⟨wo.heap.size, 0, none⟩ 1 1 [_] rfl rfl (cell_one_new _ _ _) (one_cells _ _) HO2.out HO3.out (alloc_ge HO4.out) ?_; intro v' w1 hown' hgrow _)
         have HB7 := hJ (show Below W.heap.size W w1 from (HBB.out.alloc HO4.out _).grown hgrow (alloc_ge HO4.out) (own_block_ge (HW1 (.cells #[] 0)).out))
         have HOW := hJ (own_snocN HOL.out hown' rfl)
         clear hown' hgrow
         go_roundw
         case rel => exact ⟨t + 1, o ++ [g], by have := HLE.out; first | go_num | (simp; omega), by have := HLE.out; omega, by rw [List.length_append, HOL.out]; rfl, dig_snoc HOD.out hg4, by have := HLE.out; rw [HGV.out, show S.length - 4 * (t + 1) = 0 by omega], HOW.out, HB7.out⟩
         case measure => simp [intOf]; omega
      ·clear w1
       have w2 : IntKind.i64.wrap ((m : Int) + 4 - 4) = (m : Int) := by rw [Int.add_sub_cancel]; exact IntWalk.i64_in _ (by omega)
       have w4 : IntKind.i64.wrap (m : Int) = (m : Int) := IntWalk.i64_in _ (by omega)
       have w5 : (0 : Int) < (m : Int) := by omega
       have w3 : ¬ (m : Int) < 0 := by omega
       go_wp2_with fail
       go_loopw [9, 10] (fun vv vi wr => ∃ (i : Nat), m ≤ i ∧ i ≤ (m + 4) ∧ vi = .int .i64 (i : Int) ∧ vv = .int .i64 ((dval ((S.drop (m)).take (i - (m))) : Nat) : Int) ∧ wr = wo) (fun _ vi _ => ((m + 4)) - (intOf vi).toNat)
       case atStart => exact ⟨m, Nat.le_refl _, by omega, by first | rfl | (simp; done) | (simp; omega), by rw [Nat.sub_self]; rfl, rfl⟩
       case round =>
        obtain ⟨i, hi1, hi2, rfl, rfl, rfl⟩ := hrel
        obtain ⟨wo, rfl⟩ : ∃ W, W = wr := ⟨_, rfl⟩
        have hil : i ≤ S.length := by have := HLE.out; omega
        obtain ⟨g, hg⟩ : ∃ g, dval ((S.drop (m)).take (i - (m))) = g := ⟨_, rfl⟩
        have HGG := hJ hg
        have hg4 : g < 10000 := by rw [← hg]; exact grp_lt HDG.out (by omega)
        rw [hg]
        clear hg
        by_cases hie : i < (m + 4)
        ·have hlt : i < S.length := by have := HLE.out; omega
         obtain ⟨cc, hc9, hcc⟩ := dig_byte HDG.out hlt
         have HN := hJ (grp_in (m := m) hi1 hlt hcc)
         have hcI : ((S[i]'hlt).toNat : Int) = 48 + (cc : Int) := by omega
         have g3 : dval ((S.drop (m)).take (i + 1 - (m))) < 10000 := grp_lt HDG.out (by omega)
         obtain ⟨y, hy⟩ : ∃ y, dval ((S.drop (m)).take (i + 1 - (m))) = y := ⟨_, rfl⟩
         have HY := hJ hy
         have hyv : y = 10 * g + cc := by rw [← hy, HN.out, HGG.out]
         rw [hy] at g3
         clear hy hcc
         go_wp2_with fail
         go_roundw
         case rel => exact ⟨i + 1, by omega, by omega, by go_num, by rw [HY.out]; go_num, by first | rfl | trivial⟩
         case measure => simp [intOf]; omega
        ·obtain rfl : i = m + 4 := by omega
         have HGV := hJ (grp_step (m := m) HOL.out (by have := HOV.out; have h2 := HLE.out; rw [show S.length - 4 * t = (m + 4) by omega] at this; exact this) HLE.out (by omega) HGG.out.symm)
         have HO2 := hJ (show t + 1 ≤ maxLen by unfold maxLen; omega)
         have HO3 := hJ (show (t + 1) * 8 ≤ 140737488355328 by omega)
         have HO4 := hJ HBB.out.size
         have HW1 := fun o => hJ (HW.out.alloc o)
         go_wp2_with (at_builtin; refine wpList_append_own _ rfl _ _ 22 rfl W.heap.size 3 i0 (.int .i64 0) 1 8 Tryz.underlying22 hi0 hz0 hz1 hz2 rfl (by decide) _ _ _ rfl (HW1 _).out ⟨wo.heap.size, 0, none⟩ 1 1 [_] rfl rfl (cell_one_new _ _ _) (one_cells _ _) HO2.out HO3.out (alloc_ge HO4.out) ?_; intro v' w1 hown' hgrow _)
         have HB7 := hJ (show Below W.heap.size W w1 from (HBB.out.alloc HO4.out _).grown hgrow (alloc_ge HO4.out) (own_block_ge (HW1 (.cells #[] 0)).out))
         have HOW := hJ (own_snocN HOL.out hown' rfl)
         clear hown' hgrow
         go_roundw
         case rel => exact ⟨t + 1, o ++ [g], by have := HLE.out; first | go_num | (simp; omega), by have := HLE.out; omega, by rw [List.length_append, HOL.out]; rfl, dig_snoc HOD.out hg4, by have := HLE.out; rw [HGV.out, show S.length - 4 * (t + 1) = m by omega], HOW.out, HB7.out⟩
         case measure => simp [intOf]; omega
     ·have hEn : E ≤ 0 := by omega
      have HVS := hJ (show val 10000 o = dval S by
       have := HOV.out
       rw [show S.length - 4 * t = 0 by omega, List.drop_zero] at this
       exact this)
      obtain ⟨a5, c5, rfl⟩ := own_form HW.out
      have HLI := hJ (LI.own HW.out)
      have htl : t ≤ 5000 := by omega
      clear hE
      go_wp2_with fail
      refine (normal_any false o a5 t c5 wr HOD.out HLI.out (by omega)).mono ?_
      rw [HVS.out]
      obtain ⟨X, hX⟩ : ∃ X, sgn false (dval S) = X := ⟨_, rfl⟩
      rw [hX]
      rintro e6 w6 ⟨s6, A6, n6, c6, rfl, hr6, hb6⟩
      have hn6 : n6 ≤ 900000 := by
       have h2 := hr6.2.1
       rw [← hX, sgn_abs, ← HVS.out] at h2
       have h3 := digs_len9 (B := 10000) (by decide) HOD.out
       rw [HOL.out] at h3
       omega
      obtain ⟨x6, hx6⟩ := nmz (w6.alloc (.cells #[.bool s6, .slice A6 n6 c6] 24))
      have HB6 := hJ (show Below W.heap.size W x6 by rw [← hx6]; exact (bt HBB.out hb6).alloc (bt HBB.out hb6).size _)
      have HQ6 := hJ (show P2 24 x6 w6.heap.size (.bool s6) (.slice A6 n6 c6) by rw [← hx6]; exact P2.lit _ _ _ _)
      have HR6 := hJ (show RN x6 s6 A6 n6 c6 X by rw [← hx6]; exact hr6.new ((Below.refl _ _).alloc (Nat.le_refl _) _))
      obtain ⟨p0, p1⟩ := HQ6.out.cells
      clear hr6 hb6
      go_wp2_with fail
      refine (fits_any X s6 A6 n6 c6 x6 HR6.out hn6).mono ?_
      have hfit : (decide (X.natAbs < lim) = true ∧ outV X = X ∧ outC X = 0) ∨ (decide (X.natAbs < lim) = false ∧ outV X = 0 ∧ outC X = 4) := by
       by_cases h : X.natAbs < lim
       ·exact .inl ⟨decide_eq_true h, if_pos h, if_pos h⟩
       ·exact .inr ⟨decide_eq_false h, if_neg h, if_neg h⟩
      rcases hfit with ⟨h1, h2, h3⟩ | ⟨h1, h2, h3⟩
      all_goals
       have HV2 := hJ ((congrArg outV hX).trans h2)
       have HC2 := hJ ((congrArg outC hX).trans h3)
       rw [h1]
       clear h1 h2 h3
       rintro e7 w7 ⟨rfl, hb7⟩
       have HB7 := hJ (bt HB6.out hb7)
       have HP7 := hJ (HP.out.new HB7.out)
       have HR7 := hJ (HR6.out.new hb7)
       have HK7 := hJ (bt HK.out HB7.out)
       obtain ⟨p0, p1⟩ := (HQ6.out.new hb7).cells
       obtain ⟨z0, z1⟩ := HP7.out.cells
       have f0 := HP7.out.frozen 0
       have f1 := HP7.out.frozen 1
       clear hb7
       go_wp2_with fail
       rw [HOK.out.1, HOK.out.2, HV2.out, HC2.out]
      ·exact bodyPost_ret (results_cell1 rfl _ _ _ _ _ _ _ rfl (HP7.out.all (.bool s6) (.slice A6 n6 c6)) Tryz.underlying24 rfl N_size) rfl (RetNE.stored HR7.out HP7.out rfl rfl HK7.out (by omega) _ _)
      ·exact bodyPost_ret (results_cell1 rfl _ _ _ _ _ _ _ rfl (HP7.out.all (.bool false) (.slice none 0 0)) Tryz.underlying24 rfl N_size) rfl (RetNE.stored (RN.zero0 _) HP7.out rfl rfl HK7.out (by omega) _ _)
 ·obtain rfl : S = l := hl.symm
  have g3 : ¬ (1 : Int) < S.length := by omega
  have hb3 : ¬ (S.length : Int) = 0 := by omega
  have hbl : ((S.length : Int) == 0) = false := by rw [beq_eq_false_iff_ne]; omega
  have hB48 : (((S[0]'h0).toNat : Int) == 48) = true := by rw [beq_iff_eq]; omega
  have hB45 : (((S[0]'h0).toNat : Int) == 45) = false := by rw [beq_eq_false_iff_ne]; omega
  clear hb g2
  go_enter Tryz.func124, Tryz.ntmps124
  go_wp2_with fail
  go_loopw [6] (fun vj wr => ∃ j : Nat, j ≤ S.length ∧ vj = .int .i64 (j : Int) ∧ IsDig (S.take j) ∧ wr = W) (fun vj _ => S.length - (intOf vj).toNat)
  case atStart => exact ⟨0, by omega, rfl, by rw [List.take_zero]; (intro c hc; simp at hc), rfl⟩
  case round =>
   obtain ⟨j, hj, rfl, hd, rfl⟩ := hrel
   obtain ⟨W, rfl⟩ : ∃ W, W = wr := ⟨_, rfl⟩
   have HD := hJ hd
   clear hd
   rcases Nat.lt_or_ge j S.length with hlt | hge
   ·by_cases hq1 : ((S[j]'hlt).toNat : Int) < 48
    ·rw [d_bad false (isDecB_bad hlt (by rw [by_at hlt]; omega)) |>.1, d_bad false (isDecB_bad hlt (by rw [by_at hlt]; omega)) |>.2]
     go_wp2_with fail
     exact bodyPost_ret (results_cell1 rfl _ _ _ _ _ _ _ rfl (HP.out.all (.bool false) (.slice none 0 0)) Tryz.underlying24 rfl N_size) rfl (RetNE.stored (RN.zero0 _) HP.out rfl rfl HK.out (by omega) _ _)
    ·by_cases hq2 : 57 < ((S[j]'hlt).toNat : Int)
     ·rw [d_bad false (isDecB_bad hlt (by rw [by_at hlt]; omega)) |>.1, d_bad false (isDecB_bad hlt (by rw [by_at hlt]; omega)) |>.2]
      go_wp2_with fail
      exact bodyPost_ret (results_cell1 rfl _ _ _ _ _ _ _ rfl (HP.out.all (.bool false) (.slice none 0 0)) Tryz.underlying24 rfl N_size) rfl (RetNE.stored (RN.zero0 _) HP.out rfl rfl HK.out (by omega) _ _)
     ·have HN := hJ (isDig_step HD.out hlt hq1 hq2)
      go_wp2_with fail
      go_roundw
      case rel => exact ⟨j + 1, by omega, by go_num, HN.out, by first | rfl | trivial⟩
      case measure => simp [intOf]; omega
   ·obtain rfl : S.length = j := by omega
    have HDG := hJ (show IsDig S by have := HD.out; rwa [List.take_length] at this)
    have HOK := hJ (d_ok false (HDT.out HDG.out))
    clear HD
    go_wp2_with fail
    go_loopw [7, 8] (fun vd ve wr => ∃ (t : Nat) (o : List Nat), ve = .int .i64 ((S.length : Int) - 4 * (t : Int)) ∧ 4 * t < S.length + 4 ∧ o.length = t ∧ Dig 10000 o ∧ val 10000 o = dval (S.drop (S.length - 4 * t)) ∧ wr.ownsRow W.heap.size 3 1 vd t (vs .i64 (nI o)) ∧ Below W.heap.size W wr) (fun _ ve _ => (intOf ve).toNat)
    case atStart => exact ⟨0, [], by simp, by omega, rfl, dig_nil, by rw [Nat.mul_zero, Nat.sub_zero, List.drop_length]; rfl, World.ownsRow_nil _ _ _ _, Below.refl _ _⟩
    case round =>
     obtain ⟨t, o, rfl, ht, hol, hod, hov, hown, hbel⟩ := hrel
     have HOL := hJ hol
     have HOD := hJ hod
     have HOV := hJ hov
     have HW := hJ hown
     have HBB := hJ hbel
     clear hol hod hov hown hbel
     obtain ⟨E, hE⟩ : ∃ E : Int, (S.length : Int) - 4 * (t : Int) = E := ⟨_, rfl⟩
     rw [hE]
     by_cases hpos : 0 < E
     ·obtain ⟨e, he⟩ : ∃ e : Nat, E = (e : Int) := ⟨E.toNat, by omega⟩
      have hle : S.length = e + 4 * t := by omega
      obtain ⟨m, hm⟩ : ∃ m, e - 4 = m := ⟨_, rfl⟩
      have hmx : max 0 (E - 4) = (m : Int) := by omega
      have hmi : (m : Int) = max 0 (E - 4) := hmx.symm
      have hme : m ≤ e := by omega
      have hm4 : e - m ≤ 4 := by omega
      have hE1 : E ≤ 5000 := by omega
      have HEE := hJ hE
      have HE := hJ he
      have HLE := hJ hle
      clear hE
      subst he
      have hmcase : (e ≤ 4 ∧ m = 0) ∨ (4 < e ∧ m + 4 = e) := by omega
      have w1 : IntKind.i64.wrap ((e : Int) - 4) = (e : Int) - 4 := IntWalk.i64_in _ (by omega)
      clear hle hmx hmi hm
      obtain ⟨wo, rfl⟩ : ∃ W, W = wr := ⟨_, rfl⟩
      have key : (e ≤ 4 ∧ m = 0 ∧ ((e : Int) - 4 ≤ 0)) ∨ (0 < m ∧ e = m + 4) := by
       rcases hmcase with ⟨h1, h2⟩ | ⟨h1, h2⟩
       ·exact .inl ⟨h1, h2, by omega⟩
       ·exact .inr (by omega)
      clear hmcase
      rcases key with ⟨k1, rfl, k2⟩ | ⟨hm0, rfl⟩
      ·skip
       go_wp2_with fail
       go_loopw [9, 10] (fun vv vi wr => ∃ (i : Nat), 0 ≤ i ∧ i ≤ e ∧ vi = .int .i64 (i : Int) ∧ vv = .int .i64 ((dval ((S.drop (0)).take (i - (0))) : Nat) : Int) ∧ wr = wo) (fun _ vi _ => (e) - (intOf vi).toNat)
       case atStart => exact ⟨0, Nat.le_refl _, by omega, by first | rfl | (simp; done) | (simp; omega), by rw [Nat.sub_self]; rfl, rfl⟩
       case round =>
        obtain ⟨i, hi1, hi2, rfl, rfl, rfl⟩ := hrel
        obtain ⟨wo, rfl⟩ : ∃ W, W = wr := ⟨_, rfl⟩
        have hil : i ≤ S.length := by have := HLE.out; omega
        obtain ⟨g, hg⟩ : ∃ g, dval ((S.drop (0)).take (i - (0))) = g := ⟨_, rfl⟩
        have HGG := hJ hg
        have hg4 : g < 10000 := by rw [← hg]; exact grp_lt HDG.out (by omega)
        rw [hg]
        clear hg
        by_cases hie : i < e
        ·have hlt : i < S.length := by have := HLE.out; omega
         obtain ⟨cc, hc9, hcc⟩ := dig_byte HDG.out hlt
         have HN := hJ (grp_in (m := 0) hi1 hlt hcc)
         have hcI : ((S[i]'hlt).toNat : Int) = 48 + (cc : Int) := by omega
         have g3 : dval ((S.drop (0)).take (i + 1 - (0))) < 10000 := grp_lt HDG.out (by omega)
         obtain ⟨y, hy⟩ : ∃ y, dval ((S.drop (0)).take (i + 1 - (0))) = y := ⟨_, rfl⟩
         have HY := hJ hy
         have hyv : y = 10 * g + cc := by rw [← hy, HN.out, HGG.out]
         rw [hy] at g3
         clear hy hcc
         go_wp2_with fail
         go_roundw
         case rel => exact ⟨i + 1, by omega, by omega, by go_num, by rw [HY.out]; go_num, by first | rfl | trivial⟩
         case measure => simp [intOf]; omega
        ·obtain rfl : e = i := by omega
         have HGV := hJ (grp_step (m := 0) HOL.out (by have := HOV.out; have h2 := HLE.out; rw [show S.length - 4 * t = e by omega] at this; exact this) HLE.out (by omega) HGG.out.symm)
         have HO2 := hJ (show t + 1 ≤ maxLen by unfold maxLen; omega)
         have HO3 := hJ (show (t + 1) * 8 ≤ 140737488355328 by omega)
         have HO4 := hJ HBB.out.size
         have HW1 := fun o => hJ (HW.out.alloc o)
         go_wp2_with (at_builtin; refine wpList_append_own _ rfl _ _ 22 rfl W.heap.size 3 i0 (.int .i64 0) 1 8 Tryz.underlying22 hi0 hz0 hz1 hz2 rfl (by decide) _ _ _ rfl (HW1 _).out ⟨wo.heap.size, 0, none⟩ 1 1 [_] rfl rfl (cell_one_new _ _ _) (one_cells _ _) HO2.out HO3.out (alloc_ge HO4.out) ?_; intro v' w1 hown' hgrow _)
         have HB7 := hJ (show Below W.heap.size W w1 from (HBB.out.alloc HO4.out _).grown hgrow (alloc_ge HO4.out) (own_block_ge (HW1 (.cells #[] 0)).out))
         have HOW := hJ (own_snocN HOL.out hown' rfl)
         clear hown' hgrow
         go_roundw
         case rel => exact ⟨t + 1, o ++ [g], by have := HLE.out; first | go_num | (simp; omega), by have := HLE.out; omega, by rw [List.length_append, HOL.out]; rfl, dig_snoc HOD.out hg4, by have := HLE.out; rw [HGV.out, show S.length - 4 * (t + 1) = 0 by omega], HOW.out, HB7.out⟩
         case measure => simp [intOf]; omega
      ·exfalso
       have := HLE.out
       omega
     ·have hEn : E ≤ 0 := by omega
      have HVS := hJ (show val 10000 o = dval S by
       have := HOV.out
       rw [show S.length - 4 * t = 0 by omega, List.drop_zero] at this
       exact this)
      obtain ⟨a5, c5, rfl⟩ := own_form HW.out
      have HLI := hJ (LI.own HW.out)
      have htl : t ≤ 5000 := by omega
      clear hE
      go_wp2_with fail
      refine (normal_any false o a5 t c5 wr HOD.out HLI.out (by omega)).mono ?_
      rw [HVS.out]
      obtain ⟨X, hX⟩ : ∃ X, sgn false (dval S) = X := ⟨_, rfl⟩
      rw [hX]
      rintro e6 w6 ⟨s6, A6, n6, c6, rfl, hr6, hb6⟩
      have hn6 : n6 ≤ 900000 := by
       have h2 := hr6.2.1
       rw [← hX, sgn_abs, ← HVS.out] at h2
       have h3 := digs_len9 (B := 10000) (by decide) HOD.out
       rw [HOL.out] at h3
       omega
      obtain ⟨x6, hx6⟩ := nmz (w6.alloc (.cells #[.bool s6, .slice A6 n6 c6] 24))
      have HB6 := hJ (show Below W.heap.size W x6 by rw [← hx6]; exact (bt HBB.out hb6).alloc (bt HBB.out hb6).size _)
      have HQ6 := hJ (show P2 24 x6 w6.heap.size (.bool s6) (.slice A6 n6 c6) by rw [← hx6]; exact P2.lit _ _ _ _)
      have HR6 := hJ (show RN x6 s6 A6 n6 c6 X by rw [← hx6]; exact hr6.new ((Below.refl _ _).alloc (Nat.le_refl _) _))
      obtain ⟨p0, p1⟩ := HQ6.out.cells
      clear hr6 hb6
      go_wp2_with fail
      refine (fits_any X s6 A6 n6 c6 x6 HR6.out hn6).mono ?_
      have hfit : (decide (X.natAbs < lim) = true ∧ outV X = X ∧ outC X = 0) ∨ (decide (X.natAbs < lim) = false ∧ outV X = 0 ∧ outC X = 4) := by
       by_cases h : X.natAbs < lim
       ·exact .inl ⟨decide_eq_true h, if_pos h, if_pos h⟩
       ·exact .inr ⟨decide_eq_false h, if_neg h, if_neg h⟩
      rcases hfit with ⟨h1, h2, h3⟩ | ⟨h1, h2, h3⟩
      all_goals
       have HV2 := hJ ((congrArg outV hX).trans h2)
       have HC2 := hJ ((congrArg outC hX).trans h3)
       rw [h1]
       clear h1 h2 h3
       rintro e7 w7 ⟨rfl, hb7⟩
       have HB7 := hJ (bt HB6.out hb7)
       have HP7 := hJ (HP.out.new HB7.out)
       have HR7 := hJ (HR6.out.new hb7)
       have HK7 := hJ (bt HK.out HB7.out)
       obtain ⟨p0, p1⟩ := (HQ6.out.new hb7).cells
       obtain ⟨z0, z1⟩ := HP7.out.cells
       have f0 := HP7.out.frozen 0
       have f1 := HP7.out.frozen 1
       clear hb7
       go_wp2_with fail
       rw [HOK.out.1, HOK.out.2, HV2.out, HC2.out]
      ·exact bodyPost_ret (results_cell1 rfl _ _ _ _ _ _ _ rfl (HP7.out.all (.bool s6) (.slice A6 n6 c6)) Tryz.underlying24 rfl N_size) rfl (RetNE.stored HR7.out HP7.out rfl rfl HK7.out (by omega) _ _)
      ·exact bodyPost_ret (results_cell1 rfl _ _ _ _ _ _ _ rfl (HP7.out.all (.bool false) (.slice none 0 0)) Tryz.underlying24 rfl N_size) rfl (RetNE.stored (RN.zero0 _) HP7.out rfl rfl HK7.out (by omega) _ _)
end Go.Proofs.YtbhnaffbgggabaaGreat
