/- Texts, powers, helpers. Conditions: as each statement has them. -/
import Derived.Test.YtbhnaffbgggabaaGreatB4
import Derived.Test.YtbhnaffbgggabaaGreatB1
import Derived.Deep.RegionHeld3
namespace Go.Proofs.YtbhnaffbgggabaaGreat
open Go.RowKit
attribute [local go_sem ↓] Go.wp_at_zero Go.wp_at_succ

theorem str_get (l : List UInt8) (j : Nat) (h : j < (ByteArray.mk l.toArray).size) : (ByteArray.mk l.toArray)[j]'h = l[j]'h := rfl
attribute [local go_sem] str_get
theorem by_at {l : List UInt8} {j : Nat} (h : j < l.length) : l.getD j 0 = l[j]'h := by
  rw [List.getD_eq_getElem?_getD, List.getElem?_eq_getElem h]
  rfl
def isDecB (l : List UInt8) : Bool := !l.isEmpty && !(l.getD 0 0 == 48 && decide (1 < l.length)) && l.all (fun c => decide (48 ≤ c.toNat) && decide (c.toNat ≤ 57))
theorem isDecB_true {l : List UInt8} (h0 : 0 < l.length) (h1 : ¬ ((l.getD 0 0).toNat = 48 ∧ 1 < l.length)) (h : IsDig l) : isDecB l = true := by
  have e0 : l.isEmpty = false := by cases l <;> simp_all
  have e1 : (l.getD 0 0 == 48 && decide (1 < l.length)) = false := by
    rw [Bool.and_eq_false_iff]
    by_cases g : (l.getD 0 0).toNat = 48
    · exact .inr (by simpa using fun x => h1 ⟨g, x⟩)
    · refine .inl ?_
      rw [beq_eq_false_iff_ne]
      intro e
      rw [e] at g
      exact g rfl
  have e2 : l.all (fun c => decide (48 ≤ c.toNat) && decide (c.toNat ≤ 57)) = true := by
    rw [List.all_eq_true]
    intro c hc
    have := h c hc
    simp [this.1, this.2]
  rw [isDecB, e0, e1, e2]
  rfl
theorem isDecB_zero {l : List UInt8} (h : (l.getD 0 0).toNat = 48) (h1 : 1 < l.length) : isDecB l = false := by
  have e1 : l.getD 0 0 = 48 := UInt8.toNat_inj.1 h
  rw [isDecB, e1]
  simp [h1]
theorem isDecB_bad {l : List UInt8} {j : Nat} (hj : j < l.length) (h : ¬ (48 ≤ (l.getD j 0).toNat ∧ (l.getD j 0).toNat ≤ 57)) : isDecB l = false := by
  have : l.all (fun c => decide (48 ≤ c.toNat) && decide (c.toNat ≤ 57)) = false := by
    rw [List.all_eq_false]
    refine ⟨l.getD j 0, ?_, by simpa using fun x => Nat.lt_of_not_le fun y => h ⟨x, y⟩⟩
    rw [List.getD_eq_getElem?_getD, List.getElem?_eq_getElem hj]
    exact List.getElem_mem hj
  rw [isDecB, this, Bool.and_false]
theorem isDecB_dig {l : List UInt8} (h : isDecB l = true) : IsDig l ∧ l ≠ [] ∧ (l.length = 1 ∨ l.getD 0 0 ≠ 48) := by
  rw [isDecB, Bool.and_eq_true, Bool.and_eq_true, List.all_eq_true] at h
  obtain ⟨⟨h0, h1⟩, h2⟩ := h
  have hne : l ≠ [] := by rintro rfl; simp at h0
  refine ⟨fun c hc => by simpa using h2 c hc, hne, ?_⟩
  by_cases g : l.getD 0 0 = 48
  · rw [g] at h1
    have : ¬ 1 < l.length := by simpa using h1
    have : 0 < l.length := List.length_pos_iff.2 hne
    exact .inl (by omega)
  · exact .inr g
def RetB1 (b : Bool) (w : World) (e : Ending) (w' : World) : Prop := e = .returned (.bool b) ∧ Below w.heap.size w w'
theorem isDig_step {l : List UInt8} {j : Nat} (h : IsDig (l.take j)) (hj : j < l.length) (h1 : ¬ ((l[j]'hj).toNat : Int) < 48) (h2 : ¬ 57 < ((l[j]'hj).toNat : Int)) : IsDig (l.take (j + 1)) := by
  have e : l.take (j + 1) = l.take j ++ [l[j]'hj] := List.take_succ_eq_append_getElem hj
  rw [e, isDig_append]
  refine ⟨h, fun c hc => ?_⟩
  rw [List.mem_singleton.1 hc]
  omega
set_option maxRecDepth 100000 in
set_option maxHeartbeats 1600000 in
theorem isdec_any (l : List UInt8) (w : World) (hn : l.length ≤ 100000) :
    Calls Tryz.prog 168 #[.string ⟨l.toArray⟩] w (RetB1 (isDecB l) w) := by
  rcases Nat.eq_zero_or_pos l.length with hz | h0
  · have h1' := List.eq_nil_of_length_eq_zero hz
    subst h1'
    rw [show isDecB [] = false from rfl]
    go_enter Tryz.func168, Tryz.ntmps168
    go_wp2_with fail
    go_ret
    exact ⟨rfl, Below.refl _ _⟩
  · have he : l.isEmpty = false := by cases l <;> simp_all
    by_cases hb1 : (l.getD 0 0).toNat = 48 ∧ 1 < l.length
    · rw [isDecB_zero hb1.1 hb1.2]
      have hb2 : ((l[0]'h0).toNat : Int) = 48 := by rw [← by_at h0]; omega
      have hb3 : (1 : Int) < l.length := by omega
      clear hb1
      go_enter Tryz.func168, Tryz.ntmps168
      go_wp2_with fail
      go_ret
      exact ⟨rfl, Below.refl _ _⟩
    · have HB1 := hJ hb1
      have key : (((l[0]'h0).toNat : Int) = 48 ∧ ¬ (1 : Int) < l.length) ∨ ¬ ((l[0]'h0).toNat : Int) = 48 := by
        rw [← by_at h0]; omega
      clear hb1
      rcases key with ⟨k1, k2⟩ | k1
      all_goals
        go_enter Tryz.func168, Tryz.ntmps168
        go_wp2_with fail
        go_loop [18] (fun i => ∃ j : Nat, j ≤ l.length ∧ i = .int .i64 j ∧ IsDig (l.take j)) (fun i => l.length - (intOf i).toNat)
        case atStart => exact ⟨0, by omega, rfl, by rw [List.take_zero]; intro c hc; simp at hc⟩
        case round =>
          obtain ⟨j, hj, rfl, hd⟩ := hrel
          have HD := hJ hd
          clear hd
          rcases Nat.lt_or_ge j l.length with hlt | hge
          · by_cases hq1 : ((l[j]'hlt).toNat : Int) < 48
            · rw [isDecB_bad hlt (by rw [by_at hlt]; omega)]
              go_wp2_with fail
              go_ret
              exact ⟨rfl, Below.refl _ _⟩
            · by_cases hq2 : 57 < ((l[j]'hlt).toNat : Int)
              · rw [isDecB_bad hlt (by rw [by_at hlt]; omega)]
                go_wp2_with fail
                go_ret
                exact ⟨rfl, Below.refl _ _⟩
              · have HN := hJ (isDig_step HD.out hlt hq1 hq2)
                go_wp2_with fail
                go_round
                · exact ⟨j + 1, by omega, rfl, HN.out⟩
                · simp [intOf]; omega
          · obtain rfl : l.length = j := by omega
            have HT := hJ (isDecB_true h0 HB1.out (by have := HD.out; rwa [List.take_length] at this))
            go_wp2_with fail
            go_ret
            exact ⟨by rw [HT.out]; rfl, Below.refl _ _⟩

/-- The sign and the digits of a text. -/
def cutB (l : List UInt8) : Bool := l.getD 0 0 == 45
def cutL (l : List UInt8) : List UInt8 := if cutB l then l.drop 1 else l
def RetCut (s : List UInt8) (b : Bool) (w : World) (e : Ending) (w' : World) : Prop := e = .returned (.tuple #[.string ⟨s.toArray⟩, .bool b]) ∧ Below w.heap.size w w'
theorem str_cut (l : List UInt8) (i j : Nat) : (ByteArray.mk l.toArray).extract i j = ⟨((l.drop i).take (j - i)).toArray⟩ := by
  rw [ByteArray.extract_mk]
theorem cut_head (c : UInt8) (r : List UInt8) : (((ByteArray.mk (c :: r).toArray).extract 0 1).toList == [45]) = cutB (c :: r) := by
  rw [str_cut, ByteArray.toList_mk, cutB]
  simp
set_option maxRecDepth 100000 in
set_option maxHeartbeats 1600000 in
theorem hasprefix_any (l : List UInt8) (w : World) (hn : l.length ≤ 100000) :
    Calls Tryz.prog 238 #[.string ⟨l.toArray⟩, .string ⟨#[45]⟩] w (RetB1 (cutB l) w) := by
  rcases l with _ | ⟨c, r⟩
  · rw [show cutB [] = false from rfl]
    go_enter Tryz.func238, Tryz.ntmps238
    go_wp2_with fail
    go_ret
    exact ⟨rfl, Below.refl _ _⟩
  · go_enter Tryz.func238, Tryz.ntmps238
    go_wp2_with fail
    go_ret
    exact ⟨congrArg (fun b => Ending.returned (.bool b)) (cut_head c r), Below.refl _ _⟩
set_option maxRecDepth 100000 in
set_option maxHeartbeats 1600000 in
theorem cut1_any (l : List UInt8) (w : World) (hn : l.length ≤ 100000) :
    Calls Tryz.prog 217 #[.string ⟨l.toArray⟩, .string ⟨#[45]⟩] w (RetCut (cutL l) (cutB l) w) := by
  obtain ⟨b, hb⟩ : ∃ b, cutB l = b := ⟨_, rfl⟩
  obtain ⟨S, hS⟩ : ∃ S, cutL l = S := ⟨_, rfl⟩
  have HB := hJ hb
  have HS := hJ hS
  rw [hb, hS]
  clear hb hS
  go_enter Tryz.func217, Tryz.ntmps217
  go_wp2_with fail
  refine (hasprefix_any l w hn).mono ?_
  rw [HB.out]
  rintro e w1 ⟨rfl, hb1⟩
  have HB1 := hJ hb1
  clear hb1
  cases b
  · obtain rfl : l = S := by rw [← HS.out, cutL, HB.out]; rfl
    go_wp2_with fail
    go_ret2
    exact ⟨rfl, HB1.out⟩
  · obtain rfl : l.drop 1 = S := by rw [← HS.out, cutL, HB.out]; rfl
    have hlen : (1 : Int) ≤ l.length := by
      rcases l with _ | ⟨c, r⟩
      · exact absurd HB.out (by decide)
      · rw [List.length_cons]; omega
    go_wp2_with fail
    go_ret2
    refine ⟨?_, HB1.out⟩
    have e1 := str_cut l 1 l.length
    rw [List.take_of_length_le (by simp)] at e1
    exact congrArg (fun s => Ending.returned (.tuple #[.string s, .bool true])) e1
set_option maxRecDepth 100000 in
set_option maxHeartbeats 1600000 in
theorem cut_any (l : List UInt8) (w : World) (hn : l.length ≤ 100000) :
    Calls Tryz.prog 167 #[.string ⟨l.toArray⟩, .string ⟨#[45]⟩] w (RetCut (cutL l) (cutB l) w) := by
  obtain ⟨s, hs⟩ : ∃ s, cutL l = s := ⟨_, rfl⟩
  have HC := hJ (cut1_any l w hn)
  rw [hs] at HC ⊢
  go_enter Tryz.func167, Tryz.ntmps167
  go_wp2_with fail
  refine HC.out.mono ?_
  rintro e w1 ⟨rfl, hb1⟩
  have HB1 := hJ hb1
  clear hb1
  go_wp2_with fail
  go_ret2
  exact ⟨rfl, HB1.out⟩
end Go.Proofs.YtbhnaffbgggabaaGreat

namespace Go.Proofs.YtbhnaffbgggabaaGreat
open Go.RowKit
attribute [local go_sem ↓] Go.wp_at_zero Go.wp_at_succ
attribute [local go_sem] str_get

/-- A text of an integer. -/
def isNum (l : List UInt8) : Bool := isDecB (cutL l) && !(cutB l && (cutL l == [48]))
def numOf (l : List UInt8) : Int := sgn (cutB l) (dval (cutL l))
/-- What Parse returns. -/
def psV (l : List UInt8) : Int := if 5000 < l.length then 0 else if isNum l = true then outV (numOf l) else 0
def psC (l : List UInt8) : Int := if 5000 < l.length then 4 else if isNum l = true then outC (numOf l) else 2

/-- The state of the loop: i bytes are read, m of them not yet laid into the words. -/
def GrpInv (D : List UInt8) (i b g : Nat) (o : List Nat) : Prop := val 4294967296 o * b + g = dval (D.take i) ∧ g < b ∧ (∃ m, m ≤ 8 ∧ b = 10 ^ m) ∧ (i = D.length → b = 1)
theorem pow_le8 {m : Nat} (h : m ≤ 8) : 0 < 10 ^ m ∧ 10 ^ m ≤ 100000000 ∧ (10 ^ m * 10 = 1000000000 → m = 8) ∧ (¬ 10 ^ m * 10 = 1000000000 → m ≤ 7) := by
  have : m = 0 ∨ m = 1 ∨ m = 2 ∨ m = 3 ∨ m = 4 ∨ m = 5 ∨ m = 6 ∨ m = 7 ∨ m = 8 := by omega
  rcases this with rfl | rfl | rfl | rfl | rfl | rfl | rfl | rfl | rfl <;> decide
theorem GrpInv.start (D : List UInt8) : GrpInv D 0 1 0 [] := ⟨rfl, by decide, ⟨0, by decide, rfl⟩, fun _ => rfl⟩
theorem GrpInv.bound {D : List UInt8} {i b g : Nat} {o : List Nat} (h : GrpInv D i b g o) : 0 < b ∧ b ≤ 100000000 ∧ g < b := by
  obtain ⟨_, h2, ⟨m, hm, rfl⟩, _⟩ := h
  have := pow_le8 hm
  exact ⟨this.1, this.2.1, h2⟩
theorem GrpInv.done {D : List UInt8} {b g : Nat} {o : List Nat} (h : GrpInv D D.length b g o) : val 4294967296 o = dval D := by
  obtain ⟨h1, h2, _, h4⟩ := h
  have := h4 rfl
  subst this
  rw [List.take_length] at h1
  omega
theorem take_dval {D : List UInt8} {i c : Nat} (hi : i < D.length) (hc : (D[i]'hi).toNat = 48 + c) : dval (D.take (i + 1)) = 10 * dval (D.take i) + c := by
  rw [List.take_succ_eq_append_getElem hi, dval_snoc, hc]
  omega
theorem GrpInv.next {D : List UInt8} {i b g c : Nat} {o : List Nat} (h : GrpInv D i b g o) (hi : i < D.length) (hc : (D[i]'hi).toNat = 48 + c) (hc9 : c ≤ 9) (h9 : ¬ b * 10 = 1000000000) (hl : ¬ i = D.length - 1) : GrpInv D (i + 1) (b * 10) (g * 10 + c) o := by
  obtain ⟨h1, h2, ⟨m, hm, rfl⟩, _⟩ := h
  have h8 := (pow_le8 hm).2.2.2 h9
  refine ⟨?_, by omega, ⟨m + 1, by omega, by rw [Nat.pow_succ]⟩, fun e => by omega⟩
  rw [take_dval hi hc, ← h1, Nat.mul_add, Nat.mul_comm 10 (_ * _), Nat.mul_assoc]
  omega
theorem GrpInv.flush {D : List UInt8} {i b g c : Nat} {o o' : List Nat} (h : GrpInv D i b g o) (hi : i < D.length) (hc : (D[i]'hi).toNat = 48 + c) (ho : val 4294967296 o' = val 4294967296 o * (b * 10) + (g * 10 + c)) : GrpInv D (i + 1) 1 0 o' := by
  obtain ⟨h1, _, _, _⟩ := h
  refine ⟨?_, by decide, ⟨0, by decide, rfl⟩, fun _ => rfl⟩
  rw [take_dval hi hc, ← h1, ho, Nat.mul_add, Nat.mul_comm 10 (_ * _), Nat.mul_assoc]
  omega
theorem dig_byte {D : List UInt8} (h : IsDig D) {i : Nat} (hi : i < D.length) : ∃ c, c ≤ 9 ∧ (D[i]'hi).toNat = 48 + c := by
  have := h (D[i]'hi) (List.getElem_mem hi)
  exact ⟨(D[i]'hi).toNat - 48, by omega, by omega⟩
theorem cutL_len (l : List UInt8) : (cutL l).length ≤ l.length := by
  unfold cutL
  split
  · rw [List.length_drop]; omega
  · omega

set_option maxRecDepth 100000 in
set_option maxHeartbeats 3200000 in
theorem pparse_any (l : List UInt8) (w : World) (hn : l.length ≤ 100000) :
    Calls Tryz.prog 103 #[.string ⟨l.toArray⟩] w (RetPE (psV l) (psC l) w) := by
  obtain ⟨W, hW⟩ : ∃ W, w.alloc (.cells #[.bool false, .slice none 0 0] 33) = W := ⟨_, rfl⟩
  have HK := hJ (show Below w.heap.size w W by rw [← hW]; exact (Below.refl _ w).alloc (Nat.le_refl _) _)
  have HP := hJ (show P2 33 W w.heap.size (.bool false) (.slice none 0 0) by rw [← hW]; exact P2.lit _ _ _ _)
  by_cases hbig : 5000 < l.length
  · rw [show psV l = 0 from if_pos hbig, show psC l = 4 from if_pos hbig]
    have hb' : (5000 : Int) < l.length := by omega
    obtain ⟨q0, q1⟩ := HP.out.cells
    have fq0 := HP.out.frozen 0
    have fq1 := HP.out.frozen 1
    go_enter Tryz.func103, Tryz.ntmps103
    go_wp2_with fail
    exact bodyPost_ret (results_cell1 rfl _ _ _ _ _ _ _ rfl (HP.out.all (.bool false) (.slice none 0 0)) Tryz.underlying33 rfl W_size) rfl (RetPE.stored (PI.zero W) HP.out rfl rfl HK.out (by omega) _ _)
  · have hb' : ¬ (5000 : Int) < l.length := by omega
    have hSL := cutL_len l
    have HN := hJ (show isNum l = (isDecB (cutL l) && !(cutB l && (cutL l == [48]))) from rfl)
    have HO := hJ (show numOf l = sgn (cutB l) (dval (cutL l)) from rfl)
    have HT := hJ (cut_any l W hn)
    have HI := hJ (fun w' => isdec_any (cutL l) w' (by omega))
    have HDD := hJ (fun h => (isDecB_dig (l := cutL l) h).1)
    obtain ⟨S, hS⟩ : ∃ S, cutL l = S := ⟨_, rfl⟩
    obtain ⟨mi, hmi⟩ : ∃ mi, cutB l = mi := ⟨_, rfl⟩
    obtain ⟨z, hz⟩ : ∃ z, (S == [48]) = z := ⟨_, rfl⟩
    obtain ⟨di, hdi⟩ : ∃ di, isDecB S = di := ⟨_, rfl⟩
    rw [hS, hmi] at HT HO
    rw [hS, hmi, hz, hdi] at HN
    rw [hS] at HI HDD hSL
    rw [hdi] at HI HDD
    clear hS hmi hdi
    by_cases hok : (di && !(mi && z)) = true
    · have HVV := hJ (show psV l = outV (numOf l) by rw [psV, if_neg hbig, if_pos (HN.out.trans hok)])
      have HCC := hJ (show psC l = outC (numOf l) by rw [psC, if_neg hbig, if_pos (HN.out.trans hok)])
      have hdi1 : di = true := by cases di <;> simp_all
      subst hdi1
      have hmz : (mi && z) = false := by cases mi <;> cases z <;> simp_all
      rw [HVV.out, HCC.out, HO.out]
      have HDG := hJ (HDD.out rfl)
      have hSn : S.length ≤ 5000 := by omega
      clear hok hbig hn hSL HDD HVV HCC HO HN
      rcases (show mi = false ∨ (mi = true ∧ z = false) by cases mi <;> cases z <;> simp_all) with rfl | ⟨rfl, rfl⟩
      all_goals
        clear hmz
        go_enter Tryz.func103, Tryz.ntmps103
        go_wp2_with fail
        refine HT.out.mono ?_
        rintro e w1 ⟨rfl, hb1⟩
        have HB1 := hJ hb1
        clear hb1
        go_wp2_with fail
        refine (HI.out w1).mono ?_
        rintro e w2 ⟨rfl, hb2⟩
        have HB2 := hJ (HB1.out.trans (hb2.mono HB1.out.size))
        clear hb2
        go_wp2_with fail
        go_loopw [6, 7, 8, 32] (fun v g b i wr => ∃ (j b' g' k c' : Nat) (A' : Option Addr) (o : List Nat), j ≤ S.length ∧ i = .int .i64 j ∧ v = .slice A' k c' ∧ g = .int .u32 g' ∧ b = .int .u32 b' ∧ k ≤ j ∧ GrpInv S j b' g' o ∧ Dig 4294967296 o ∧ LI .u32 wr (.slice A' k c') o ∧ Below W.heap.size W wr) (fun _ _ _ i _ => S.length - (intOf i).toNat)
        case atStart => exact ⟨0, 1, 0, 0, 0, none, [], by omega, rfl, rfl, rfl, rfl, by omega, GrpInv.start S, dig_nil, LO.nil, HB2.out⟩
        case round =>
          obtain ⟨j, b', g', k, c', A', o, hj, rfl, rfl, rfl, rfl, hkj, hinv, hdo, hlo, hbw⟩ := hrel
          have HINV := hJ hinv
          have HDO := hJ hdo
          have HLO := hJ hlo
          have HBW := hJ hbw
          clear hinv hdo hlo hbw
          obtain ⟨hb0, hb9, hgb⟩ := HINV.out.bound
          rcases Nat.lt_or_ge j S.length with hlt | hge
          · obtain ⟨d, hd9, hd⟩ := dig_byte HDG.out hlt
            have HD := hJ hd
            have hd1 : ((S[j]'hlt).toNat : Int) = 48 + d := by omega
            clear hd
            have key : b' = 100000000 ∨ ¬ (b' : Int) * 10 = 1000000000 := by omega
            rcases key with rfl | k1
            · go_wp2_with fail
              rw [show ((g' : Int) * 10 + (48 + (d : Int) - 48)) = ((g' * 10 + d : Nat) : Int) by omega, show (1000000000 : Int) = ((100000000 * 10 : Nat) : Int) from rfl]
              refine (times_any o A' k c' (100000000 * 10) (g' * 10 + d) wr HDO.out HLO.out (by omega) (by omega) (by omega)).mono ?_
              rintro e w5 ⟨G5, n5, o5, rfl, hg5, hblk5, hol5, hod5, ⟨hov5, hon5⟩, hb5⟩
              have HN5 := hJ (HINV.out.flush hlt HD.out hov5)
              have HL5 := hJ (hblk5.li0 hol5 (Nat.le_refl _)).weak
              have HD5 := hJ hod5
              have HB5 := hJ (HBW.out.trans (hb5.mono HBW.out.size))
              have hlk := HLO.out.len.1
              have hn5 : n5 ≤ j + 1 := by omega
              clear hblk5 hol5 hod5 hov5 hon5 hb5 hlk
              go_wp2
              go_roundw
              case rel => exact ⟨j + 1, 1, 0, n5, n5, _, o5, by omega, by go_num, rfl, rfl, rfl, hn5, HN5.out, HD5.out, HL5.out, HB5.out⟩
              case measure => simp [intOf]; omega
            · go_wp2_with fail
              · rw [show ((g' : Int) * 10 + (48 + (d : Int) - 48)) = ((g' * 10 + d : Nat) : Int) by omega, show ((b' : Int) * 10) = ((b' * 10 : Nat) : Int) by omega]
                refine (times_any o A' k c' (b' * 10) (g' * 10 + d) wr HDO.out HLO.out (by omega) (by omega) (by omega)).mono ?_
                rintro e w5 ⟨G5, n5, o5, rfl, hg5, hblk5, hol5, hod5, ⟨hov5, hon5⟩, hb5⟩
                have HN5 := hJ (HINV.out.flush hlt HD.out hov5)
                have HL5 := hJ (hblk5.li0 hol5 (Nat.le_refl _)).weak
                have HD5 := hJ hod5
                have HB5 := hJ (HBW.out.trans (hb5.mono HBW.out.size))
                have hlk := HLO.out.len.1
                have hn5 : n5 ≤ j + 1 := by omega
                clear hblk5 hol5 hod5 hov5 hon5 hb5 hlk
                go_wp2
                go_roundw
                case rel => exact ⟨j + 1, 1, 0, n5, n5, _, o5, by omega, by go_num, rfl, rfl, rfl, hn5, HN5.out, HD5.out, HL5.out, HB5.out⟩
                case measure => simp [intOf]; omega
              · have hc : ¬ (j : Int) = S.length - 1 := beq_eq_false_iff_ne.1 (by assumption : ((b' : Int) * 10 == 1000000000) = false ∧ ((j : Int) == (S.length : Int) - 1) = false).2
                have HN5 := hJ (HINV.out.next hlt HD.out hd9 (by omega) (by omega))
                go_roundw
                case rel => exact ⟨j + 1, b' * 10, g' * 10 + d, k, c', A', o, by omega, by go_num, rfl, by go_num, by go_num, by omega, HN5.out, HDO.out, HLO.out, HBW.out⟩
                case measure => simp [intOf]; omega
          · obtain rfl : S.length = j := by omega
            have HV := hJ HINV.out.done
            clear hb0 hb9 hgb HINV
            go_wp2_with fail
            refine (signed_any _ o A' k c' wr HDO.out HLO.out (by omega)).mono ?_
            rw [HV.out]
            rintro e w5 ⟨s5, A5, n5, c5, rfl, hr5, hb5⟩
            have hn5 : n5 ≤ k := by
              have := hr5.2.1
              rw [sgn_abs, ← HV.out] at this
              rw [← this, ← HLO.out.len.1]
              exact digs_len_le (by decide) (val_lt (by decide) HDO.out)
            have HR5 := hJ hr5
            have HB5 := hJ (HBW.out.trans (hb5.mono HBW.out.size))
            clear hr5 hb5
            go_wp2_with fail
            refine (inRange_any _ s5 A5 n5 c5 w5 HR5.out (by omega)).mono ?_
            rintro e w6 ⟨s6, A6, n6, c6, rfl, hr6, hb6⟩
            have HR6 := hJ hr6
            have HB6 := hJ (HB5.out.trans (hb6.mono HB5.out.size))
            clear hr6 hb6
            have HP2 := hJ (HP.out.new HB6.out)
            obtain ⟨q0, q1⟩ := HP2.out.cells
            have fq0 := HP2.out.frozen 0
            have fq1 := HP2.out.frozen 1
            go_wp2_with fail
            exact bodyPost_ret (results_cell1 rfl _ _ _ _ _ _ _ rfl (HP2.out.all (.bool s6) (.slice A6 n6 c6)) Tryz.underlying33 rfl W_size) rfl (RetPE.stored HR6.out HP2.out rfl rfl (HK.out.trans (HB6.out.mono HK.out.size)) (by omega) _ _)
    · have HVV := hJ (show psV l = 0 by rw [psV, if_neg hbig, if_neg (by rw [HN.out]; exact hok)])
      have HCC := hJ (show psC l = 2 by rw [psC, if_neg hbig, if_neg (by rw [HN.out]; exact hok)])
      rw [HVV.out, HCC.out]
      have hok' : di = false ∨ (di = true ∧ mi = true ∧ z = true) := by cases di <;> cases mi <;> cases z <;> simp_all
      clear hok hbig hn
      rcases hok' with rfl | ⟨rfl, rfl, rfl⟩
      all_goals
        go_enter Tryz.func103, Tryz.ntmps103
        go_wp2_with fail
        refine HT.out.mono ?_
        rintro e w1 ⟨rfl, hb1⟩
        have HB1 := hJ hb1
        clear hb1
        go_wp2_with fail
        refine (HI.out w1).mono ?_
        rintro e w2 ⟨rfl, hb2⟩
        have HB2 := hJ (HB1.out.trans (hb2.mono HB1.out.size))
        clear hb2
        have HP2 := hJ (HP.out.new HB2.out)
        obtain ⟨q0, q1⟩ := HP2.out.cells
        have fq0 := HP2.out.frozen 0
        have fq1 := HP2.out.frozen 1
        go_wp2_with fail
        exact bodyPost_ret (results_cell1 rfl _ _ _ _ _ _ _ rfl (HP2.out.all (.bool false) (.slice none 0 0)) Tryz.underlying33 rfl W_size) rfl (RetPE.stored (PI.zero w2) HP2.out rfl rfl (HK.out.trans (HB2.out.mono HK.out.size)) (by omega) _ _)
end Go.Proofs.YtbhnaffbgggabaaGreat

namespace Go.Proofs.YtbhnaffbgggabaaGreat
open Go.RowKit
attribute [local go_sem ↓] Go.wp_at_zero Go.wp_at_succ

theorem own_len {w : World} {base n : Nat} {e : TypeId} {v : Value} {k : IntKind} {ys : List Int} (h : w.ownsRow base e 1 v n (vs k ys)) : ys.length = n := by
  have := h.1
  rw [vs_length] at this
  omega
theorem vs_setI (k : IntKind) (xs : List Int) (i : Nat) (v : Int) : (vs k xs).set i (.int k v) = vs k (xs.set i v) := by simp [vs, List.map_set]
/-- The first k and the last k of a list have changed places. -/
def Swp (L : List Int) (k : Nat) (ys : List Int) : Prop := ys.length = L.length ∧ ∀ i, i < L.length → ys.getD i 0 = if i < k ∨ L.length ≤ i + k then L.getD (L.length - 1 - i) 0 else L.getD i 0
theorem Swp.start (L : List Int) : Swp L 0 L := ⟨rfl, fun i hi => by rw [if_neg (by omega)]⟩
theorem Swp.next {L ys : List Int} {k j : Nat} (h : Swp L k ys) (hj : L.length = k + j + 1) (hkj : k < j) : Swp L (k + 1) ((ys.set k (ys.getD j 0)).set j (ys.getD k 0)) := by
  obtain ⟨h1, h2⟩ := h
  refine ⟨by simpa using h1, fun i hi => ?_⟩
  have hk := h2 k (by omega)
  have hjj := h2 j (by omega)
  rw [if_neg (by omega)] at hk hjj
  rw [List.getD_eq_getElem?_getD, List.getElem?_set, List.getElem?_set]
  by_cases e1 : j = i
  · subst e1
    rw [if_pos rfl, if_pos (by simp; omega), Option.getD_some, if_pos (by omega), hk, show L.length - 1 - j = k by omega]
  · rw [if_neg e1]
    by_cases e2 : k = i
    · subst e2
      rw [if_pos rfl, if_pos (by omega), Option.getD_some, if_pos (by omega), hjj, show L.length - 1 - k = j by omega]
    · rw [if_neg e2, ← List.getD_eq_getElem?_getD, h2 i hi]
      by_cases e3 : i < k ∨ L.length ≤ i + k
      · rw [if_pos e3, if_pos (by omega)]
      · rw [if_neg e3, if_neg (by omega)]
theorem Swp.done {L ys : List Int} {k : Nat} (h : Swp L k ys) (hk : L.length ≤ k + k + 1) : ys = L.reverse := by
  obtain ⟨h1, h2⟩ := h
  refine List.ext_getElem (by simpa using h1) fun i hi hi' => ?_
  have h3 := h2 i (by omega)
  rw [List.getD_eq_getElem?_getD, List.getElem?_eq_getElem hi, Option.getD_some] at h3
  rw [List.getElem_reverse, h3]
  split
  · rw [List.getD_eq_getElem?_getD, List.getElem?_eq_getElem (by omega), Option.getD_some]
  · rename_i hne
    have hl : i < L.length := by omega
    rw [List.getD_eq_getElem?_getD, List.getElem?_eq_getElem hl, Option.getD_some]
    congr 1
    omega
set_option maxRecDepth 100000 in
set_option maxHeartbeats 1600000 in
theorem reverse_any (L : List Int) (base G n c : Nat) (w : World) (h : w.ownsRow base 5 1 (.slice (some ⟨G, 0, none⟩) n c) n (vs .u8 L)) (hn : n ≤ 2000000) :
    Calls Tryz.prog 174 #[.slice (some ⟨G, 0, none⟩) n c] w fun e w' => e = .returned (.tuple #[]) ∧ w'.ownsRow base 5 1 (.slice (some ⟨G, 0, none⟩) n c) n (vs .u8 L.reverse) ∧ Kp (· = G) w w' := by
  have HO := hJ h
  have HL := hJ (own_len h)
  clear h
  go_enter Tryz.func174, Tryz.ntmps174
  go_wp2_with fail
  go_loopw [2, 3] (fun i j wr => ∃ (k : Nat) (ys : List Int), k ≤ n ∧ k ≤ (n : Int) - k ∧ i = .int .i64 k ∧ j = .int .i64 ((n : Int) - 1 - k) ∧ Swp L k ys ∧ wr.ownsRow base 5 1 (.slice (some ⟨G, 0, none⟩) n c) n (vs .u8 ys) ∧ Kp (· = G) w wr) (fun i _ _ => n - (intOf i).toNat)
  case atStart => exact ⟨0, L, by omega, by omega, rfl, by go_num, Swp.start L, HO.out, Kp.refl _ _⟩
  case round =>
    obtain ⟨k, ys, hk, hk2, rfl, rfl, hsw, hown, hkp⟩ := hrel
    have HSW := hJ hsw
    have HW := hJ hown
    have HKP := hJ hkp
    clear hsw hown hkp
    by_cases hlt : (k : Int) < (n : Int) - 1 - k
    · obtain ⟨z, hz⟩ : ∃ z : Int, (n : Int) - 1 - k = z := ⟨_, rfl⟩
      rw [hz] at hlt ⊢
      obtain ⟨j, rfl⟩ : ∃ j : Nat, z = (j : Int) := ⟨z.toNat, by omega⟩
      have HJ := hJ (show n = k + j + 1 by omega)
      have hkj : k < j := by omega
      have hjn : j < n := by omega
      have hkn : k < n := by omega
      clear hz
      have HYL := hJ (own_len HW.out)
      have hck : wr.cell? ⟨G, k, none⟩ = some (.int .u8 (ys.getD k 0)) := by
        rw [HW.out.cellAt k (by omega)]
        exact vs_get (by rw [List.getD_eq_getElem?_getD, List.getElem?_eq_getElem (by rw [HYL.out]; exact hkn)]; rfl)
      have hcj : wr.cell? ⟨G, j, none⟩ = some (.int .u8 (ys.getD j 0)) := by
        rw [HW.out.cellAt j (by omega)]
        exact vs_get (by rw [List.getD_eq_getElem?_getD, List.getElem?_eq_getElem (by rw [HYL.out]; exact hjn)]; rfl)
      have hfk := HW.out.frozenAt k
      have hfj := HW.out.frozenAt j
      have HNX := hJ (HSW.out.next (j := j) (by have := HL.out; have := HJ.out; omega) hkj)
      generalize ys.getD k 0 = X at hck HNX
      generalize ys.getD j 0 = Y at hcj HNX
      have hst := ((HW.out.stored k (.int .u8 Y)).1.stored j (.int .u8 X)).1
      rw [vs_setI, vs_setI] at hst
      have HST := hJ hst
      have HKS := hJ ((HKP.out.setCell (p := ⟨G, k, none⟩) (fun _ => rfl) (.int .u8 Y)).setCell (p := ⟨G, j, none⟩) (fun _ => rfl) (.int .u8 X))
      clear hst
      go_wp2_with fail
      go_region
      go_wp2
      go_roundw
      case rel => exact ⟨k + 1, _, by omega, by have := HJ.out; omega, by go_num, by have := HJ.out; go_num, HNX.out, HST.out, HKS.out.drew⟩
      case measure => simp [intOf]; omega
    · have HDN := hJ (HSW.out.done (by have := HL.out; omega))
      go_wp2_with fail
      go_end0
      exact ⟨rfl, by rw [← HDN.out]; exact HW.out, HKP.out⟩
end Go.Proofs.YtbhnaffbgggabaaGreat

namespace Go.Proofs.YtbhnaffbgggabaaGreat
open Go.RowKit
attribute [local go_sem ↓] Go.wp_at_zero Go.wp_at_succ

theorem u8_info : (Tryz.prog.info? 5).map (fun i => (i.zero, i.size, i.bytes)) = some (some (.int .u8 0), 1, 1) := by kernel_rfl
theorem own_snocB {W : World} {base t k : Nat} {v : Value} {pre : List UInt8} {x : UInt8} {y : Int} (hk : pre.length = k) (h : W.ownsRow base t 1 v (k + 1) (vs .u8 (bI pre) ++ [.int .u8 y])) (hy : y = (x.toNat : Int)) :
    W.ownsRow base t 1 v (k + 1) (vs .u8 (bI (pre ++ [x]))) := by
  subst hk hy
  rw [show bI (pre ++ [x]) = bI pre ++ [(x.toNat : Int)] by simp [bI], vs, List.map_append]
  exact h
theorem own_kpR {w w' : World} {base n size : Nat} {e : TypeId} {v : Value} {zs : List Value} {t : Nat → Prop} (h : w.ownsRow base e size v n zs) (hk : Kp t w w') (ht : ∀ b, base ≤ b → ¬ t b) : w'.ownsRow base e size v n zs := by
  refine ⟨h.1, ?_⟩
  rcases h.2 with h0 | ⟨b, cap, cur, h1, h2, h3, h4⟩
  · exact .inl h0
  · exact .inr ⟨b, cap, cur, h1, h2, (hk.block b (Array.getElem?_eq_some_iff.1 h3).1 (ht b h2)).trans h3, h4⟩
/-- The digits of a number from its end, none of zero. -/
def rdz (v : Nat) : List UInt8 := if v = 0 then [] else (dec v).reverse
theorem rdz_zero : rdz 0 = [] := rfl
theorem rdz_pos {v : Nat} (h : 0 < v) : rdz v = dig8 (v % 10) :: rdz (v / 10) := by
  unfold rdz
  rw [if_neg (by omega)]
  by_cases h10 : v < 10
  · rw [dec_lt h10, if_pos (by omega), show v % 10 = v by omega]
    rfl
  · rw [dec_ge (by omega), if_neg (by omega), List.reverse_append]
    rfl
theorem rdz_len {v k : Nat} (h : v < 10 ^ k) : (rdz v).length ≤ k := by
  unfold rdz
  split
  · simp
  · rw [List.length_reverse]
    rcases Nat.eq_zero_or_pos k with e | e
    · subst e; simp at h; omega
    · exact (dec_len e).2 h
/-- Some digits of a group are out: g and L are left. -/
def InnV (X L g m : Nat) (T : List UInt8) : Prop := m ≤ 9 ∧ g < 10 ^ (9 - m) ∧ T ++ rdz (g + L * 10 ^ (9 - m)) = rdz X
theorem InnV.start {X L : Nat} {T : List UInt8} (h : T ++ rdz L = rdz X) : InnV X (L / 1000000000) (L % 1000000000) 0 T := by
  refine ⟨by decide, Nat.mod_lt _ (by decide), ?_⟩
  rw [show L % 1000000000 + L / 1000000000 * 10 ^ (9 - 0) = L by rw [show 10 ^ (9 - 0) = 1000000000 from rfl]; omega]
  exact h
theorem InnV.next {X L g m : Nat} {T : List UInt8} (h : InnV X L g m T) (hm : m < 9) (hp : 0 < L ∨ 0 < g) : InnV X L (g / 10) (m + 1) (T ++ [dig8 (g % 10)]) := by
  obtain ⟨_, h2, h3⟩ := h
  obtain ⟨q, hq⟩ : ∃ q, 9 - m = q + 1 := ⟨8 - m, by omega⟩
  have hq' : 9 - (m + 1) = q := by omega
  rw [hq, Nat.pow_succ] at h2 h3
  have hP : 0 < 10 ^ q := Nat.pow_pos (by decide)
  have hV : 0 < g + L * (10 ^ q * 10) := by
    rcases hp with h | h
    · have : 0 < L * (10 ^ q * 10) := Nat.mul_pos h (by omega)
      omega
    · omega
  refine ⟨by omega, by rw [hq']; omega, ?_⟩
  rw [rdz_pos hV] at h3
  rw [hq', ← h3, List.append_assoc, List.singleton_append, ← Nat.mul_assoc]
  rw [show (g + L * 10 ^ q * 10) % 10 = g % 10 by omega, show (g + L * 10 ^ q * 10) / 10 = g / 10 + L * 10 ^ q by omega]
theorem InnV.done {X L g m : Nat} {T : List UInt8} (h : InnV X L g m T) (hd : m = 9 ∨ (L = 0 ∧ g = 0)) : T ++ rdz L = rdz X := by
  obtain ⟨_, h2, h3⟩ := h
  rcases hd with rfl | ⟨rfl, rfl⟩
  · simp at h2
    subst h2
    simpa using h3
  · simpa using h3
def RetStr (s : List UInt8) (w : World) (e : Ending) (w' : World) : Prop := e = .returned (.string ⟨s.toArray⟩) ∧ Below w.heap.size w w'
theorem rdz_rev {v : Nat} (h : 0 < v) : (rdz v).reverse = dec v := by
  rw [rdz, if_neg (by omega), List.reverse_reverse]
theorem bI_rev (l : List UInt8) : (bI l).reverse = bI l.reverse := by simp [bI]

set_option maxRecDepth 100000 in
set_option maxHeartbeats 3200000 in
theorem pstring_any (x : Int) (s : Bool) (A : Option Addr) (n c : Nat) (w : World) (hx : PI w s A n c x) (hn : n ≤ 100000) :
    Calls Tryz.prog 107 #[.agg #[.bool s, .slice A n c]] w (RetStr (decI x) w) := by
  obtain ⟨W, hW⟩ : ∃ W, w.alloc (.cells #[.bool s, .slice A n c] 33) = W := ⟨_, rfl⟩
  have HK := hJ (show Below w.heap.size w W by rw [← hW]; exact (Below.refl _ w).alloc (Nat.le_refl _) _)
  have HP := hJ (show P2 33 W w.heap.size (.bool s) (.slice A n c) by rw [← hW]; exact P2.lit _ _ _ _)
  have HX := hJ (hx.new HK.out)
  have HWS := hJ (show W.heap.size = w.heap.size + 1 by rw [← hW]; simp)
  obtain ⟨p0, p1⟩ := HP.out.cells
  clear hx
  by_cases hx0 : x = 0
  · subst hx0
    rw [show decI 0 = [48] by rw [decI, if_neg (by decide)]; exact dec_lt (by decide)]
    go_enter Tryz.func107, Tryz.ntmps107
    go_wp2_with fail
    refine (sign_any 0 s A n c W HX.out (by omega)).mono ?_
    rintro e w1 ⟨rfl, hb1⟩
    rw [show cmpI 0 0 = 0 from rfl]
    have HB1 := hJ (HK.out.trans (hb1.mono HK.out.size))
    clear hb1
    go_wp2
    go_ret
    exact ⟨rfl, HB1.out⟩
  · obtain ⟨i0, hi0, hz0, hz1, hz2⟩ := info_parts u8_info
    have HXP := hJ (show 0 < x.natAbs by omega)
    have HXL := hJ (HX.out.2.1)
    go_enter Tryz.func107, Tryz.ntmps107
    go_wp2_with fail
    refine (sign_any x s A n c W HX.out (by omega)).mono ?_
    rintro e w1 ⟨rfl, hb1⟩
    obtain ⟨v, hv⟩ : ∃ v, cmpI x 0 = v := ⟨_, rfl⟩
    have hv0 : (v == 0) = false := by rw [← hv]; exact cmpI_zero hx0
    rw [hv]
    clear hv p0 p1 hW
    have HB1 := hJ hb1
    obtain ⟨p10, p11⟩ := (HP.out.new hb1).cells
    clear hb1
    go_wp2_with fail
    refine (copied_any _ A n c w1 (HX.out.2.2.new HB1.out) (by omega)).mono ?_
    rintro e w2 ⟨rfl, hblk2, hb2⟩
    obtain ⟨G, hG⟩ : ∃ G, w1.heap.size = G := ⟨_, rfl⟩
    rw [hG] at hblk2 ⊢
    have HBK2 := hJ hblk2
    have HB2 := hJ (HB1.out.trans (hb2.mono HB1.out.size))
    have HG := hJ (show w.heap.size < G ∧ G < w2.heap.size by have := HB1.out.size; have := HWS.out; exact ⟨by omega, hblk2.lt⟩)
    clear hb2 hblk2 p10 p11 hG
    go_wp2_with fail
    obtain ⟨N, hN⟩ : ∃ N, (rdz x.natAbs).length = N := ⟨_, rfl⟩
    have HN := hJ hN
    have hN1 : N ≤ 1000000 := by
      rw [← hN]
      refine Nat.le_trans (rdz_len (k := 10 * n) ?_) (by omega)
      have h1 := digs_lt (B := 4294967296) (by decide) x.natAbs
      rw [HXL.out] at h1
      refine Nat.lt_of_lt_of_le h1 ?_
      rw [Nat.pow_mul]
      exact Nat.pow_le_pow_left (by decide) n
    clear hN
    have hGw : w2.heap.size > G := HG.out.2
    go_loopw [3, 4] (fun v l wr => ∃ (t k L c' : Nat) (A' : Option Addr) (T : List UInt8) (Tl : List Nat), v = .slice A' t c' ∧ l = .slice (some ⟨G, 0, none⟩) k n ∧ k ≤ n ∧ t ≤ N ∧ T.length = t ∧ T ++ rdz L = rdz x.natAbs ∧ (digs 4294967296 L).length = k ∧ wr.ownsRow (G + 1) 5 1 (.slice A' t c') t (vs .u8 (bI T)) ∧ Blk .u32 wr G 218 (digs 4294967296 L ++ Tl) ∧ Below G w2 wr) (fun v _ _ => N - lenOf v)
    case atStart => exact ⟨0, n, x.natAbs, 0, none, [], [], rfl, rfl, Nat.le_refl _, by omega, rfl, rfl, HXL.out, World.ownsRow_nil _ _ _ _, by rw [List.append_nil]; exact HBK2.out, Below.refl _ _⟩
    case round =>
      obtain ⟨t, k, L, c', A', T, Tl, rfl, rfl, hk, ht, hT, hTL, hLk, hown, hblk, hbel⟩ := hrel
      have HT := hJ hT
      have HTL := hJ hTL
      have HLK := hJ hLk
      have HO := hJ hown
      have HBK := hJ hblk
      have HBL := hJ hbel
      clear hT hTL hLk hown hblk hbel
      rcases Nat.eq_zero_or_pos k with h0 | h0
      · subst h0
        have HL0 := hJ (show L = 0 from (digs_nil (B := 4294967296) (by decide)).1 (List.eq_nil_of_length_eq_zero HLK.out))
        have HTT := hJ (show T = rdz x.natAbs by
          have := HTL.out
          rwa [HL0.out, rdz_zero, List.append_nil] at this)
        have htn : 0 < t := by
          have := HT.out
          rw [HTT.out, rdz_pos HXP.out, List.length_cons] at this
          omega
        obtain ⟨g8, c8, e8⟩ : ∃ g c, Value.slice A' t c' = .slice (some ⟨g, 0, none⟩) t c := by
          rcases HO.out.2 with ⟨_, h0⟩ | ⟨g, cap, cur, h1, _⟩
          · omega
          · exact ⟨g, cap, h1⟩
        injection e8 with e81 e82 e83
        subst e81 e83
        have HBW := hJ (HB2.out.trans ⟨HBL.out.os, HBL.out.tape, HBL.out.output, HBL.out.size, fun k hk => HBL.out.block k (by have := HG.out; have := HWS.out; omega)⟩)
        obtain ⟨p20, p21⟩ := (HP.out.new HBW.out).cells
        have HSG := hJ HX.out.1
        have HG2 := hJ (show W.heap.size ≤ G by have := HG.out; have := HWS.out; omega)
        cases s
        · have HRT := hJ (show decI x = T.reverse by
            rw [HTT.out, rdz_rev HXP.out, decI, if_neg (of_decide_eq_false HSG.out.symm)])
          go_wp2_with fail
          refine (reverse_any (bI T) (G + 1) g8 t c' wr HO.out (by omega)).mono ?_
          rw [bI_rev]
          rintro e w9 ⟨rfl, hown9, hkp9⟩
          have hconv := (In.own hown9).text (P := Tryz.prog) (src := 72) (dst := 9) (e := 5) Tryz.underlying72 Tryz.underlying5 Tryz.underlying9
          have HB9 := hJ (HBW.out.trans (hkp9.below (B := W.heap.size) HBW.out.size (fun b h => by have := own_block_ge HO.out g8 rfl; have := HG2.out; omega)))
          clear hkp9 hown9
          go_wp2
          go_ret
          exact ⟨by rw [HRT.out]; rfl, HK.out.trans (HB9.out.mono HK.out.size)⟩
        · have HRT := hJ (show decI x = (T ++ [45]).reverse by
            rw [List.reverse_append, HTT.out, rdz_rev HXP.out, decI, if_pos (of_decide_eq_true HSG.out.symm)]
            rfl)
          have HO2 := hJ (show t + 1 ≤ maxLen by unfold maxLen; omega)
          have HO3 := hJ (show (t + 1) * 1 ≤ 140737488355328 by omega)
          have HO4 := hJ (show G + 1 ≤ wr.heap.size by have := HBL.out.size; omega)
          have HOB := hJ (own_block_ge HO.out)
          have HW1 := fun o => hJ (HO.out.alloc o)
          go_wp2_with (at_builtin; refine wpList_append_own _ rfl _ _ 72 rfl (G + 1) 5 i0 (.int .u8 0) 1 1 Tryz.underlying72 hi0 hz0 hz1 hz2 rfl (by decide) _ _ _ rfl (HW1 _).out ⟨wr.heap.size, 0, none⟩ 1 1 [_] rfl rfl (cell_one_new _ _ _) (one_cells _ _) HO2.out HO3.out (alloc_ge HO4.out) ?_; intro v' w7 hown' hgrow _)
          have HB7 := hJ ((HBW.out.alloc HBW.out.size _).grown hgrow (alloc_ge HBW.out.size) (fun b hb => by have := HOB.out b hb; have := HG2.out; omega))
          have ho7 := own_snocB (x := 45) HT.out hown' rfl
          obtain ⟨g7, c7, rfl⟩ : ∃ g c, v' = .slice (some ⟨g, 0, none⟩) (t + 1) c := by
            rcases ho7.2 with ⟨_, h0⟩ | ⟨g, cap, cur, h1, _⟩
            · omega
            · exact ⟨g, cap, h1⟩
          have HO7 := hJ ho7
          clear hown' hgrow ho7 HW1
          go_wp2_with fail
          refine (reverse_any (bI (T ++ [45])) (G + 1) g7 (t + 1) c7 w7 HO7.out (by omega)).mono ?_
          rw [bI_rev]
          rintro e w9 ⟨rfl, hown9, hkp9⟩
          have hconv := (In.own hown9).text (P := Tryz.prog) (src := 72) (dst := 9) (e := 5) Tryz.underlying72 Tryz.underlying5 Tryz.underlying9
          have HB9 := hJ (HB7.out.trans (hkp9.below (B := W.heap.size) HB7.out.size (fun b h => by have := own_block_ge HO7.out g7 rfl; have := HG2.out; omega)))
          clear hkp9 hown9
          go_wp2
          go_ret
          exact ⟨by rw [HRT.out, List.reverse_append]; rfl, HK.out.trans (HB9.out.mono HK.out.size)⟩
      · have HL0 := hJ (show 0 < L by
          rcases Nat.eq_zero_or_pos L with h | h
          · have := HLK.out; rw [h, digs_zero, List.length_nil] at this; omega
          · exact h)
        have hk0 : (0 : Int) < k := by omega
        go_wp2_with fail
        refine (shorten_any _ Tl G k n 1000000000 wr HBK.out HLK.out (dig_digs (by decide) L) (by omega) (by decide) (by decide)).mono ?_
        rw [val_digs (by decide)]
        rintro e w5 ⟨rfl, ⟨r, hrl, hrd, hrv, hrb⟩, hkp5⟩
        have HRL := hJ hrl
        have HRD := hJ hrd
        have HRV := hJ hrv
        have HRB := hJ hrb
        have HK5 := hJ hkp5
        have HLO := hJ (show LO .u32 (· = G) w5 (.slice (some ⟨G, 0, none⟩) k n) r by
          have := hrb.li (off := 0) (n := k) (c := n) (by rw [List.length_append]; omega) hk
          rw [List.drop_zero, show (r ++ Tl).take k = r by rw [← hrl, List.take_left]] at this
          exact this)
        have HO5 := hJ (own_kpR HO.out hkp5 (fun b h e => by omega))
        have HBL5 := hJ (HBL.out.trans (hkp5.below (B := G) (by have := HBL.out.size; omega) (fun b h => by omega)))
        obtain ⟨g0, hg0⟩ : ∃ g0, L % 1000000000 = g0 := ⟨_, rfl⟩
        have HG0 := hJ hg0
        rw [hg0]
        have hg9 : g0 < 1000000000 := by rw [← hg0]; exact Nat.mod_lt _ (by decide)
        clear hrl hrd hrv hrb hkp5 hg0 HBK HO HBL
        go_wp2_with fail
        refine (trimmed_ok (· = G) r _ k n w5 HRD.out HLO.out (by omega)).mono ?_
        rw [HRV.out]
        rintro e w6 ⟨⟨k6, rfl, _, hk6, hk6n, hr6⟩, rfl⟩
        have HK6 := hJ hk6
        have HB6 := hJ (show Blk .u32 w5 G 218 (digs 4294967296 (L / 1000000000) ++ (r.drop k6 ++ Tl)) by
          rw [← hr6, ← List.append_assoc, List.take_append_drop]
          exact HRB.out)
        clear hk6 hr6 HRB HLO HRD HRL HRV
        have HI0 := hJ (InnV.start HTL.out)
        rw [HG0.out] at HI0
        obtain ⟨L', hL'⟩ : ∃ L', L / 1000000000 = L' := ⟨_, rfl⟩
        rw [hL'] at HK6 HB6 HI0
        have HL' := hJ hL'
        have HKL := hJ (show 0 < k6 ↔ 0 < L' by
          have := HK6.out
          constructor
          · intro h
            rcases Nat.eq_zero_or_pos L' with h' | h'
            · rw [h', digs_zero, List.length_nil] at this; omega
            · exact h'
          · intro h
            rcases Nat.eq_zero_or_pos k6 with h' | h'
            · rw [h'] at this
              have := (digs_nil (B := 4294967296) (by decide)).1 (List.eq_nil_of_length_eq_zero this)
              omega
            · exact h')
        clear hL'
        obtain ⟨wo, rfl⟩ : ∃ W, W = w5 := ⟨_, rfl⟩
        go_wp2_with fail
        go_loopw [3, 5, 6] (fun v g m wr => ∃ (t' m' g' c' : Nat) (A' : Option Addr) (T' : List UInt8), v = .slice A' t' c' ∧ g = .int .u32 g' ∧ m = .int .i64 m' ∧ t' = t + m' ∧ T'.length = t' ∧ InnV x.natAbs L' g' m' T' ∧ wr.ownsRow (G + 1) 5 1 (.slice A' t' c') t' (vs .u8 (bI T')) ∧ Below (G + 1) wo wr) (fun _ _ m _ => 9 - (intOf m).toNat)
        case atStart => exact ⟨t, 0, g0, c', A', T, rfl, rfl, rfl, rfl, HT.out, HI0.out, HO5.out, Below.refl _ _⟩
        case round =>
          obtain ⟨t', m, g, c', A', T', rfl, rfl, rfl, rfl, hT', hinn, hown', hbel'⟩ := hrel
          have HT' := hJ hT'
          have HIN := hJ hinn
          have HOW := hJ hown'
          have HBE := hJ hbel'
          have hm9 := hinn.1
          clear hT' hinn hown' hbel'
          have hg9 : g < 1000000000 := Nat.lt_of_lt_of_le HIN.out.2.1 (Nat.pow_le_pow_right (n := 10) (by decide) (show 9 - m ≤ 9 by omega))
          have HTN := hJ (show t + m ≤ N by
            have h1 := congrArg List.length HIN.out.2.2
            rw [List.length_append, HT'.out, HN.out] at h1
            omega)
          obtain ⟨z, hz⟩ : ∃ z : Int, (g : Int) = z := ⟨_, rfl⟩
          rw [hz]
          have hzl : 0 ≤ z := by omega
          have hzr : z < 1000000000 := by omega
          have HZ := hJ hz
          clear hz hg9
          by_cases hgo : m < 9 ∧ (0 < k6 ∨ 0 < z)
          · have HNX := hJ (HIN.out.next hgo.1 (by
              rcases hgo.2 with h | h
              · exact .inl (HKL.out.1 h)
              · exact .inr (by have := HZ.out; omega)))
            have hq : ((m : Int) < 9 ∧ (0 : Int) < k6) ∨ ((m : Int) < 9 ∧ k6 = 0 ∧ 0 < z) := by omega
            have hm9' : m < 9 := hgo.1
            have HO2 := hJ (show t + m + 1 ≤ maxLen by have := HTN.out; unfold maxLen; omega)
            have HO3 := hJ (show (t + m + 1) * 1 ≤ 140737488355328 by have := HTN.out; omega)
            have HO4 := hJ (show G + 1 ≤ wr.heap.size by have := HBE.out.size; have := HB6.out.lt; omega)
            have HOB := hJ (own_block_ge HOW.out)
            have HW1 := fun o => hJ (HOW.out.alloc o)
            clear hgo
            rcases hq with ⟨hq1, hq2⟩ | ⟨hq1, rfl, hq3⟩
            all_goals
              go_wp2_with (at_builtin; refine wpList_append_own _ rfl _ _ 72 rfl (G + 1) 5 i0 (.int .u8 0) 1 1 Tryz.underlying72 hi0 hz0 hz1 hz2 rfl (by decide) _ _ _ rfl (HW1 _).out ⟨wr.heap.size, 0, none⟩ 1 1 [_] rfl rfl (cell_one_new _ _ _) (one_cells _ _) HO2.out HO3.out (alloc_ge HO4.out) ?_; intro v' w1 hown' hgrow _)
              obtain ⟨a9, c9, rfl⟩ := own_form hown'
              have HB9 := hJ ((HBE.out.alloc HO4.out _).grown hgrow (alloc_ge HO4.out) HOB.out)
              have HO9 := hJ (own_snocB (x := dig8 (g % 10)) HT'.out hown' (by rw [dig8_nat (Nat.mod_lt _ (by decide))]; have := HZ.out; omega))
              clear hown' hgrow HW1
              go_wp2
              go_roundw
              case rel => exact ⟨t + m + 1, m + 1, g / 10, c9, a9, _, rfl, by have := HZ.out; exact congrArg _ (by omega), by go_num, by omega, by rw [List.length_append, HT'.out]; rfl, HNX.out, HO9.out, HB9.out⟩
              case measure => simp [intOf]; omega
          · have hq : (¬ (m : Int) < 9) ∨ ((m : Int) < 9 ∧ k6 = 0 ∧ ¬ 0 < z) := by omega
            have HDN := hJ (show m = 9 ∨ (L' = 0 ∧ g = 0) by
              rcases hq with h | ⟨_, h1, h2⟩
              · exact .inl (by omega)
              · refine .inr ⟨?_, by have := HZ.out; omega⟩
                rcases Nat.eq_zero_or_pos L' with h | h
                · exact h
                · exact absurd (HKL.out.2 h) (by omega))
            have HFT := hJ (HIN.out.done HDN.out)
            have HMP := hJ (show 0 < m by
              rcases Nat.eq_zero_or_pos m with h | h
              · subst h
                rcases HDN.out with h9 | ⟨h1, h2⟩
                · omega
                · have h3 := HIN.out.2.2
                  rw [h1, h2, Nat.zero_mul, rdz_zero, List.append_nil] at h3
                  have h4 := congrArg List.length h3
                  have h5 := congrArg List.length HTL.out
                  rw [HT'.out] at h4
                  rw [List.length_append, HT.out, ← h4, rdz_pos HL0.out, List.length_cons] at h5
                  omega
              · exact h)
            have HBK9 := hJ (show Blk .u32 wr G 218 (digs 4294967296 L' ++ (r.drop k6 ++ Tl)) from (HBE.out.block G (by omega)).trans HB6.out)
            have HBL9 := hJ (HBL5.out.trans ⟨HBE.out.os, HBE.out.tape, HBE.out.output, HBE.out.size, fun k hk => HBE.out.block k (by omega)⟩)
            have hk6' : k6 ≤ n := by omega
            clear hgo
            rcases hq with hq1 | ⟨hq1, rfl, hq3⟩
            all_goals
              go_wp2
              go_roundw
              case rel => exact ⟨t + m, _, L', c', A', T', _, rfl, rfl, hk6', HTN.out, HT'.out, HFT.out, HK6.out, HOW.out, HBK9.out, HBL9.out⟩
              case measure => have := HTN.out; have := HMP.out; simp [lenOf]; omega
end Go.Proofs.YtbhnaffbgggabaaGreat

namespace Go.Proofs.YtbhnaffbgggabaaGreat
open Go.RowKit
attribute [local go_sem ↓] Go.wp_at_zero Go.wp_at_succ
attribute [local go_sem] str_get

/-- A text, empty for zero. -/
def decz (v : Nat) : List UInt8 := if v = 0 then [] else dec v
theorem decz_step {v : Nat} (h : 0 < v) (T : List UInt8) : decz (v / 10) ++ (dig8 (v % 10) :: T) = decz v ++ T := by
  unfold decz
  rw [if_neg (show ¬ v = 0 by omega)]
  by_cases h10 : v < 10
  · rw [if_pos (by omega), dec_lt h10, show v % 10 = v by omega]; rfl
  · rw [if_neg (by omega), dec_ge (n := v) (by omega), List.append_assoc]; rfl
theorem digits_cut : ∀ d, d < 10 → (ByteArray.mk #[48, 49, 50, 51, 52, 53, 54, 55, 56, 57]).extract d (d + 1) = ⟨[dig8 d].toArray⟩ := by decide +kernel
theorem str_app (a b : List UInt8) : ByteArray.mk a.toArray ++ ByteArray.mk b.toArray = ⟨(a ++ b).toArray⟩ := by
  apply ByteArray.ext
  simp
set_option maxRecDepth 100000 in
set_option maxHeartbeats 1600000 in
theorem decimal_any (m : Nat) (w : World) (hm : m < 10000) :
    Calls Tryz.prog 170 #[.int .i64 (m : Int)] w (RetStr (dec m) w) := by
  rcases Nat.eq_zero_or_pos m with h0 | h0
  · subst h0
    rw [show dec 0 = [48] from dec_lt (by decide)]
    go_enter Tryz.func170, Tryz.ntmps170
    go_wp2
    go_ret
    exact ⟨rfl, Below.refl _ _⟩
  · have hm0 : ((m : Int) == 0) = false := beq_eq_false_iff_ne.2 (by omega)
    have hmn : ¬ (m : Int) < 0 := by omega
    have HD := hJ (show decz m = dec m from if_neg (by omega))
    go_enter Tryz.func170, Tryz.ntmps170
    go_wp2
    go_loopw [4, 5] (fun v k wr => ∃ (q : Nat) (T : List UInt8), v = .string ⟨T.toArray⟩ ∧ k = .int .i64 (q : Int) ∧ q ≤ m ∧ decz q ++ T = decz m ∧ T.length + q ≤ 20000 ∧ Below w.heap.size w wr) (fun _ k _ => (intOf k).toNat)
    case atStart => exact ⟨m, [], rfl, rfl, Nat.le_refl _, by simp, by simp; omega, Below.refl _ _⟩
    case round =>
      obtain ⟨q, T, rfl, rfl, hq, hT, hlen, hb⟩ := hrel
      have HT := hJ hT
      have HB := hJ hb
      clear hT hb
      rcases Nat.eq_zero_or_pos q with h1 | h1
      · subst h1
        have HE := hJ (show dec m = T by rw [← HD.out, ← HT.out]; rfl)
        go_wp2
        go_ret
        exact ⟨by rw [HE.out]; rfl, HB.out⟩
      · have HN := hJ (decz_step h1 T)
        obtain ⟨z, hz⟩ : ∃ z : Int, (q : Int) = z := ⟨_, rfl⟩
        rw [hz]
        have hz1 : 0 < z := by omega
        have hz2 : z < 10000 := by omega
        have HZ := hJ hz
        clear hz
        go_wp2
        go_round
        · refine ⟨q / 10, dig8 (q % 10) :: T, ?_, by have := HZ.out; exact congrArg _ (by omega), by omega, HN.out.trans HT.out, by rw [List.length_cons]; omega, HB.out⟩
          have := HZ.out
          rw [show (z % 10).toNat = q % 10 by omega, show (z % 10 + 1).toNat = q % 10 + 1 by omega, digits_cut _ (Nat.mod_lt _ (by decide)), str_app]
          rfl
        · simp [intOf]; omega
def strLen : Value → Nat
  | .string s => s.data.size
  | _ => 0
/-- Zeros laid in front. -/
def Pad (d : Nat) (S : List UInt8) : Prop := S.length ≤ 4 ∧ ∃ k, S = List.replicate k (dig8 0) ++ dec d
theorem Pad.start {d : Nat} (h : d < 10000) : Pad d (dec d) := ⟨(dec_len (by decide)).2 h, 0, rfl⟩
theorem Pad.next {d : Nat} {S : List UInt8} (h : Pad d S) (hl : S.length < 4) : Pad d (48 :: S) := by
  obtain ⟨_, k, rfl⟩ := h
  exact ⟨by rw [List.length_cons]; omega, k + 1, rfl⟩
theorem Pad.done {d : Nat} {S : List UInt8} (h : Pad d S) (hd : d < 10000) (hl : ¬ S.length < 4) : S = pad4 d := by
  obtain ⟨h4, k, rfl⟩ := h
  rw [← pad4_dec hd]
  rw [List.length_append, List.length_replicate] at hl h4
  rw [show 4 - (dec d).length = k by omega]
set_option maxRecDepth 100000 in
set_option maxHeartbeats 3200000 in
theorem text_any (x : Int) (s : Bool) (A : Option Addr) (n c : Nat) (w : World) (hx : RN w s A n c x) (hn : n ≤ 150000) :
    Calls Tryz.prog 104 #[.agg #[.bool s, .slice A n c]] w (RetStr (decI x) w) := by
  obtain ⟨W, hW⟩ : ∃ W, w.alloc (.cells #[.bool s, .slice A n c] 24) = W := ⟨_, rfl⟩
  have HK := hJ (show Below w.heap.size w W by rw [← hW]; exact (Below.refl _ w).alloc (Nat.le_refl _) _)
  have HP := hJ (show P2 24 W w.heap.size (.bool s) (.slice A n c) by rw [← hW]; exact P2.lit _ _ _ _)
  have HSX := hJ hx.1
  have HNX := hJ hx.2.1
  have HLX := hJ (hx.2.2.new HK.out)
  have HDX := hJ (dig_digs (B := 10000) (by decide) x.natAbs)
  have HVX := hJ (val_digs (B := 10000) (by decide) x.natAbs)
  have HLAST := hJ (fun h : x.natAbs ≠ 0 => digs_last (B := 10000) (by decide) h)
  have HI := hJ (show decI x = if s = true then 45 :: dec x.natAbs else dec x.natAbs by rw [decI, hx.1]; simp)
  have HNIL := hJ (digs_nil (B := 10000) (n := x.natAbs) (by decide))
  obtain ⟨l, hl⟩ : ∃ l, digs 10000 x.natAbs = l := ⟨_, rfl⟩
  rw [hl] at HNX HLX HDX HVX HLAST HNIL
  obtain ⟨p0, p1⟩ := HP.out.cells
  clear hx hl
  rcases Nat.eq_zero_or_pos n with h0 | h0
  · subst h0
    have HX0 := hJ (HNIL.out.1 (List.eq_nil_of_length_eq_zero HNX.out))
    have HS : s = false := by
      have := HSX.out
      rw [this]
      exact decide_eq_false (by have := HX0.out; omega)
    subst HS
    have HE := hJ (show decI x = [48] by rw [HI.out, HX0.out]; exact dec_lt (by decide))
    rw [HE.out]
    go_enter Tryz.func104, Tryz.ntmps104
    go_wp2_with fail
    go_ret
    exact ⟨rfl, HK.out⟩
  · have HX0 := hJ (show x.natAbs ≠ 0 by
      intro h
      have h1 := HNIL.out.2 h
      have h2 := HNX.out
      rw [h1, List.length_nil] at h2
      omega)
    have hn0 : ((n : Int) == 0) = false := beq_eq_false_iff_ne.2 (by omega)
    obtain ⟨m, rfl⟩ : ∃ m, n = m + 1 := ⟨n - 1, by omega⟩
    obtain ⟨b, off, rfl, hb, hc⟩ := HLX.out.at_ (j := m) (by omega)
    have hdm := dig_getD (B := 10000) (by decide) HDX.out m
    have HTOP := hJ (show l.getD m 0 ≠ 0 by have := HLAST.out HX0.out; rwa [HNX.out] at this)
    obtain ⟨d, hd⟩ : ∃ d, l.getD m 0 = d := ⟨_, rfl⟩
    rw [hd] at hc hdm HTOP
    have HD := hJ hd
    clear hd
    go_enter Tryz.func104, Tryz.ntmps104
    go_wp2_with fail
    refine (decimal_any d W hdm).mono ?_
    rintro e w1 ⟨rfl, hb1⟩
    have HB1 := hJ hb1
    obtain ⟨p10, p11⟩ := (HP.out.new hb1).cells
    clear hb1 p0 p1 hc hW
    have HT1 := hJ (show (dec d).length ≤ 4 from (dec_len (by decide)).2 hdm)
    go_wp2_with fail
    go_loopw [3, 4] (fun v i wr => ∃ (z : Int) (T : List UInt8), v = .string ⟨T.toArray⟩ ∧ i = .int .i64 z ∧ -1 ≤ z ∧ z < (m : Int) ∧ T = dec (val 10000 (l.drop (z + 1).toNat)) ∧ 0 < val 10000 (l.drop (z + 1).toNat) ∧ (T.length : Int) + 4 * z ≤ 4 * m ∧ Below W.heap.size W wr) (fun _ i _ => (intOf i + 1).toNat)
    case atStart =>
      have e : val 10000 (l.drop m) = d := by
        rw [val_drop, HD.out, List.drop_of_length_le (by rw [HNX.out]; omega)]
        simp [val]
      refine ⟨(m : Int) - 1, dec d, rfl, by go_num, by omega, by omega, ?_, ?_, by have := HT1.out; omega, HB1.out⟩
      · rw [show ((m : Int) - 1 + 1).toNat = m by omega, e]
      · rw [show ((m : Int) - 1 + 1).toNat = m by omega, e]
        have := HTOP.out
        omega
    case round =>
      obtain ⟨z, T, rfl, rfl, hz1, hz2, hT, hpos, hlen, hbel⟩ := hrel
      have HT := hJ hT
      have HPOS := hJ hpos
      have HLEN := hJ hlen
      have HB := hJ hbel
      have hTl : T.length ≤ 4 * m + 4 := by omega
      obtain ⟨p20, p21⟩ := (HP.out.new hbel).cells
      clear hT hpos hlen hbel p10 p11
      by_cases hz : 0 ≤ z
      · obtain ⟨j, rfl⟩ : ∃ j : Nat, z = (j : Int) := ⟨z.toNat, by omega⟩
        obtain ⟨b', off', he, hb', hc'⟩ := (HLX.out.new HB.out).at_ (j := j) (by omega)
        injection he with he
        injection he with he1 he2
        subst he1 he2
        have hdj := dig_getD (B := 10000) (by decide) HDX.out j
        obtain ⟨y, hy⟩ : ∃ y, l.getD j 0 = y := ⟨_, rfl⟩
        rw [hy] at hc' hdj
        have HYD := hJ hy
        clear hy
        go_wp2_with fail
        refine (decimal_any y wr hdj).mono ?_
        rintro e w3 ⟨rfl, hb3⟩
        have HB3 := hJ (HB.out.trans (hb3.mono HB.out.size))
        clear hb3 p20 p21 hc'
        go_wp2_with fail
        go_loopw [5] (fun v wr => ∃ S : List UInt8, v = .string ⟨S.toArray⟩ ∧ Pad y S ∧ Below W.heap.size W wr) (fun v _ => 4 - strLen v)
        case atStart => exact ⟨dec y, rfl, Pad.start hdj, HB3.out⟩
        case round =>
          obtain ⟨S, rfl, hp, hb5⟩ := hrel
          have HPD := hJ hp
          have HB5 := hJ hb5
          have hS4 := hp.1
          clear hp hb5
          by_cases hs : (S.length : Int) < 4
          · have HN := hJ (HPD.out.next (by omega))
            go_wp2
            go_round
            · exact ⟨48 :: S, by rw [show (#[48] : Array UInt8) = [48].toArray from rfl, str_app]; rfl, HN.out, HB5.out⟩
            · simp [strLen]; omega
          · have HF := hJ (HPD.out.done hdj (by omega))
            have HTE := hJ (show T ++ pad4 y = dec (val 10000 (l.drop j)) ∧ 0 < val 10000 (l.drop j) by
              have h1 := HT.out
              have h2 := HPOS.out
              rw [show ((j : Int) + 1).toNat = j + 1 by omega] at h1 h2
              rw [val_drop, HYD.out]
              refine ⟨?_, by omega⟩
              rw [h1, dec_step h2 hdj])
            go_wp2
            go_roundw
            case rel => exact ⟨(j : Int) - 1, T ++ S, by rw [str_app], by go_num, by omega, by omega, by rw [show ((j : Int) - 1 + 1).toNat = j by omega, HF.out]; exact HTE.out.1, by rw [show ((j : Int) - 1 + 1).toNat = j by omega]; exact HTE.out.2, by have := HLEN.out; rw [List.length_append]; omega, HB5.out⟩
            case measure => simp [intOf]
      · obtain rfl : z = -1 := by omega
        have HTE := hJ (show T = dec x.natAbs by rw [HT.out, ← HVX.out]; rfl)
        cases s
        · have HE := hJ (show decI x = T by rw [HI.out, HTE.out]; rfl)
          go_wp2
          go_ret
          exact ⟨by rw [HE.out]; rfl, HK.out.trans (HB.out.mono HK.out.size)⟩
        · have HE := hJ (show decI x = [45] ++ T by rw [HI.out, HTE.out]; rfl)
          go_wp2
          go_ret
          exact ⟨by rw [HE.out, ← str_app]; rfl, HK.out.trans (HB.out.mono HK.out.size)⟩
end Go.Proofs.YtbhnaffbgggabaaGreat

namespace Go.Proofs.YtbhnaffbgggabaaGreat
open Go.RowKit
attribute [local go_sem ↓] Go.wp_at_zero Go.wp_at_succ

theorem dec_num (m : Nat) : isDecB (dec m) = true ∧ (0 < m → (dec m == [48]) = false) ∧ (dec m).getD 0 0 ≠ 45 := by
  have hne := dec_ne m
  have hd := isDig_dec m
  have hl : 0 < (dec m).length := List.length_pos_iff.2 hne
  have h0 : 0 < m → (dec m).getD 0 0 ≠ 48 := dec_head m
  have hz : m = 0 → dec m = [48] := by rintro rfl; exact dec_lt (by decide)
  refine ⟨isDecB_true hl ?_ hd, fun hm => ?_, ?_⟩
  · rintro ⟨h1, h2⟩
    rcases Nat.eq_zero_or_pos m with e | e
    · rw [hz e] at h2; simp at h2
    · exact h0 e (UInt8.toNat_inj.1 h1)
  · rw [beq_eq_false_iff_ne]
    intro e
    have := h0 hm
    rw [e] at this
    exact this rfl
  · intro e
    have h1 := hd ((dec m)[0]'hl) (List.getElem_mem hl)
    rw [by_at hl] at e
    rw [e] at h1
    exact absurd h1.1 (by decide)
theorem num_decI (x : Int) : isNum (decI x) = true ∧ numOf (decI x) = x := by
  obtain ⟨h1, h2, h3⟩ := dec_num x.natAbs
  unfold isNum numOf
  by_cases hx : x < 0
  · have e : decI x = 45 :: dec x.natAbs := if_pos hx
    have e1 : cutB (decI x) = true := by rw [e]; rfl
    have e2 : cutL (decI x) = dec x.natAbs := by rw [cutL, e1, e]; rfl
    rw [e1, e2, h1, h2 (by omega), dval_dec]
    refine ⟨rfl, ?_⟩
    unfold sgn
    rw [if_pos rfl]
    omega
  · have e : decI x = dec x.natAbs := if_neg hx
    have e1 : cutB (decI x) = false := by rw [e, cutB, beq_eq_false_iff_ne]; exact h3
    have e2 : cutL (decI x) = dec x.natAbs := by rw [cutL, e1, e]; rfl
    rw [e1, e2, h1, dval_dec]
    refine ⟨rfl, ?_⟩
    unfold sgn
    rw [if_neg (by decide)]
    omega
theorem two_ten (q e : Nat) (h : e ≤ 93 * q) : 2 ^ e ≤ 10 ^ (28 * q) := by
  refine Nat.le_trans (Nat.pow_le_pow_right (by decide) h) ?_
  rw [Nat.pow_mul, Nat.pow_mul]
  exact Nat.pow_le_pow_left (by decide) q
/-- Twice the bound of the range. -/
def big : Nat := 2 ^ (32 * limE + 1)
theorem lim_two : lim = 2 ^ (32 * limE) := by
  unfold lim
  rw [Nat.pow_mul]
theorem big_lim : big = 2 * lim := by
  rw [lim_two, big, Nat.pow_succ, Nat.mul_comm]
theorem dec_short {v k : Nat} (q : Nat) (h : v < 2 ^ k) (hk : k ≤ 93 * q) (hq : 0 < 28 * q) : (dec v).length ≤ 28 * q := (dec_len hq).2 (Nat.lt_of_lt_of_le h (two_ten q k hk))
theorem decI_short {x : Int} (h : x.natAbs < big) : (decI x).length ≤ 5000 := by
  have h1 : (dec x.natAbs).length ≤ 28 * 177 := dec_short 177 h (by decide) (by decide)
  unfold decI
  split
  · rw [List.length_cons]; omega
  · omega
theorem ps_decI {x : Int} (h : x.natAbs < big) : psV (decI x) = outV x ∧ psC (decI x) = outC x := by
  have h1 := decI_short h
  obtain ⟨h2, h3⟩ := num_decI x
  have h4 : ¬ 5000 < (decI x).length := by omega
  unfold psV psC
  rw [if_neg h4, if_neg h4, if_pos h2, if_pos h2, h3]
  exact ⟨rfl, rfl⟩
theorem lim_big {x : Int} (h : x.natAbs < lim) : x.natAbs < big := by
  rw [big_lim]; omega
end Go.Proofs.YtbhnaffbgggabaaGreat

namespace Go.Proofs.YtbhnaffbgggabaaGreat
open Go.RowKit
attribute [local go_sem ↓] Go.wp_at_zero Go.wp_at_succ

theorem bt {a b c : World} (h1 : Below a.heap.size a b) (h2 : Below b.heap.size b c) : Below a.heap.size a c := h1.trans (h2.mono h1.size)
end Go.Proofs.YtbhnaffbgggabaaGreat

namespace Go.Proofs.YtbhnaffbgggabaaGreat
open Go.RowKit
attribute [local go_sem ↓] Go.wp_at_zero Go.wp_at_succ
theorem len_two {v m : Nat} (h : v < 2 ^ m) : (digs 10000 v).length ≤ m := digs_len_le (by decide) (Nat.lt_of_lt_of_le h (Nat.pow_le_pow_left (by decide) m))
theorem rn_len {w : World} {s : Bool} {A : Option Addr} {n c m : Nat} {x : Int} (h : RN w s A n c x) (hx : x.natAbs < 2 ^ m) : n ≤ m := by
  rw [← h.2.1]
  exact len_two hx
/-- The state of the loop of Power. -/
def PowInv (k q P Q : Nat) : Prop := P * Q ^ q = 2 ^ k ∧ 0 < P ∧ 0 < Q ∧ Q ≤ 2 ^ (2 * k + 1)
theorem PowInv.start (k : Nat) : PowInv k k 1 2 := ⟨by rw [Nat.one_mul], by decide, by decide, by
  rw [Nat.pow_succ]
  have : 0 < 2 ^ (2 * k) := Nat.pow_pos (by decide)
  omega⟩
theorem PowInv.le {k q P Q : Nat} (h : PowInv k q P Q) : P ≤ 2 ^ k ∧ (0 < q → Q ≤ 2 ^ k) := by
  obtain ⟨h1, h2, h3, _⟩ := h
  have hp : 0 < Q ^ q := Nat.pow_pos h3
  refine ⟨?_, fun hq => ?_⟩
  · rw [← h1]; exact Nat.le_mul_of_pos_right _ hp
  · rw [← h1]
    obtain ⟨r, rfl⟩ : ∃ r, q = r + 1 := ⟨q - 1, by omega⟩
    rw [Nat.pow_succ]
    calc Q ≤ Q ^ r * Q := Nat.le_mul_of_pos_left _ (Nat.pow_pos h3)
      _ ≤ P * (Q ^ r * Q) := Nat.le_mul_of_pos_left _ h2
theorem PowInv.sq {k q P Q : Nat} (h : PowInv k q P Q) (hq : 0 < q) : Q * Q ≤ 2 ^ (2 * k + 1) := by
  have h1 := h.le.2 hq
  have h2 : Q * Q ≤ 2 ^ k * 2 ^ k := Nat.mul_le_mul h1 h1
  rw [← Nat.pow_add] at h2
  exact Nat.le_trans h2 (Nat.pow_le_pow_right (by decide) (by omega))
theorem PowInv.odd {k q P Q : Nat} (h : PowInv k q P Q) (hq : q % 2 = 1) : PowInv k (q / 2) (P * Q) (Q * Q) := by
  have hs := h.sq (by omega)
  obtain ⟨h1, h2, h3, _⟩ := h
  refine ⟨?_, Nat.mul_pos h2 h3, Nat.mul_pos h3 h3, hs⟩
  rw [← h1, ← Nat.pow_two, ← Nat.pow_mul, Nat.mul_assoc, ← Nat.pow_succ', show (2 * (q / 2)).succ = q by omega]
theorem PowInv.even {k q P Q : Nat} (h : PowInv k q P Q) (hq0 : 0 < q) (hq : q % 2 = 0) : PowInv k (q / 2) P (Q * Q) := by
  have hs := h.sq hq0
  obtain ⟨h1, h2, h3, _⟩ := h
  refine ⟨?_, h2, Nat.mul_pos h3 h3, hs⟩
  rw [← h1, ← Nat.pow_two, ← Nat.pow_mul, show 2 * (q / 2) = q by omega]
theorem RNo.box {ok : Nat → Prop} {w : World} {s : Bool} {A : Option Addr} {n c : Nat} {x : Int} {t : TypeId} {B : Nat} {z0 z1 : Value} (h : RNo ok w s A n c x) (hp : P2 t w B z0 z1) (h0 : isI z0 = false) (h1 : isI z1 = false) (u0 u1 : Value) : RNo ok ((w.setCell ⟨B, 0, none⟩ u0).setCell ⟨B, 1, none⟩ u1) s A n c x := ⟨h.1, h.2.1, h.2.2.box hp h0 h1 u0 u1⟩
theorem PowInv.lens {k q P Q : Nat} (h : PowInv k q P Q) {w : World} {s s' : Bool} {A A' : Option Addr} {n c n' c' : Nat} (h1 : RN w s A n c (P : Int)) (h2 : RN w s' A' n' c' (Q : Int)) : n ≤ k + 1 ∧ n' ≤ 2 * k + 2 := by
  refine ⟨rn_len h1 ?_, rn_len h2 ?_⟩
  · have h3 := h.le.1
    have h4 : 2 ^ k < 2 ^ (k + 1) := Nat.pow_lt_pow_right (by decide) (by omega)
    rw [Int.natAbs_natCast]
    omega
  · have h3 := h.2.2.2
    have h4 : 2 ^ (2 * k + 1) < 2 ^ (2 * k + 2) := Nat.pow_lt_pow_right (by decide) (by omega)
    rw [Int.natAbs_natCast]
    omega
set_option maxRecDepth 100000 in
set_option maxHeartbeats 3200000 in
theorem power_any (k : Nat) (w : World) (hk : k ≤ 20000) :
    Calls Tryz.prog 19 #[.int .i64 (k : Int)] w (RetN ((2 ^ k : Nat) : Int) w) := by
  obtain ⟨W, hW⟩ : ∃ W, w.alloc (.cells #[.bool false, .slice none 0 0] 24) = W := ⟨_, rfl⟩
  have HK := hJ (show Below w.heap.size w W by rw [← hW]; exact (Below.refl _ w).alloc (Nat.le_refl _) _)
  have HP := hJ (show P2 24 W w.heap.size (.bool false) (.slice none 0 0) by rw [← hW]; exact P2.lit _ _ _ _)
  have HP0 := HP.out.lt
  have HI0 := hJ (PowInv.start k)
  go_enter Tryz.func19, Tryz.ntmps19
  go_wp2_with fail
  refine (of_any 1 W (by decide)).mono ?_
  rintro e w1 ⟨s1, A1, n1, c1, rfl, hr1, hb1⟩
  obtain ⟨x1, hx1⟩ : ∃ x, w1.alloc (.cells #[.bool s1, .slice A1 n1 c1] 24) = x := ⟨_, rfl⟩
  have HB1 := hJ (show Below W.heap.size W x1 by rw [← hx1]; exact hb1.alloc hb1.size _)
  have HQ1 := hJ (show P2 24 x1 w1.heap.size (.bool s1) (.slice A1 n1 c1) by rw [← hx1]; exact P2.lit _ _ _ _)
  have HR1 := hJ (show RN x1 s1 A1 n1 c1 1 by rw [← hx1]; exact hr1.new ((Below.refl _ _).alloc (Nat.le_refl _) _))
  have HG1 := hJ (show w.heap.size < w1.heap.size by have := hb1.size; omega)
  clear hb1 hr1 hW
  go_wp2_with fail
  refine (of_any 2 x1 (by decide)).mono ?_
  rintro e w2 ⟨s2, A2, n2, c2, rfl, hr2, hb2⟩
  obtain ⟨x2, hx2⟩ : ∃ x, w2.alloc (.cells #[.bool s2, .slice A2 n2 c2] 24) = x := ⟨_, rfl⟩
  have hbb : Below x1.heap.size x1 x2 := by rw [← hx2]; exact hb2.alloc hb2.size _
  have HB2 := hJ (bt HB1.out hbb)
  have HQ2 := hJ (show P2 24 x2 w2.heap.size (.bool s2) (.slice A2 n2 c2) by rw [← hx2]; exact P2.lit _ _ _ _)
  have HR2 := hJ (show RN x2 s2 A2 n2 c2 2 by rw [← hx2]; exact hr2.new ((Below.refl _ _).alloc (Nat.le_refl _) _))
  have HR1' := hJ (HR1.out.new hbb)
  have HQ1' := hJ (HQ1.out.new hbb)
  have HG2 := hJ (show w1.heap.size < w2.heap.size by have := hb2.size; have := HQ1.out.lt; omega)
  clear hb2 hr2 hbb hx1 HR1 HQ1
  obtain ⟨g1, hg1⟩ : ∃ g, w1.heap.size = g := ⟨_, rfl⟩
  obtain ⟨g2, hg2⟩ : ∃ g, w2.heap.size = g := ⟨_, rfl⟩
  rw [hg1] at HQ1' HG1 HG2
  rw [hg2] at HQ2 HG2
  have hgg1 := HG1.out
  have hgg2 := HG2.out
  go_wp2_with fail
  clear hg1 hg2 hx2
  go_loopw [0] (fun v wr => ∃ (q P Q : Nat) (s s' : Bool) (A A' : Option Addr) (n c n' c' : Nat), v = .int .i64 (q : Int) ∧ q ≤ k ∧ PowInv k q P Q ∧ P2 24 wr w.heap.size (.bool false) (.slice none 0 0) ∧ P2 24 wr g1 (.bool s) (.slice A n c) ∧ P2 24 wr g2 (.bool s') (.slice A' n' c') ∧ RN wr s A n c (P : Int) ∧ RN wr s' A' n' c' (Q : Int) ∧ Below w.heap.size w wr) (fun v _ => (intOf v).toNat)
  case atStart => exact ⟨k, 1, 2, s1, s2, A1, A2, n1, c1, n2, c2, rfl, Nat.le_refl _, HI0.out, HP.out.new HB2.out, HQ1'.out, HQ2.out, HR1'.out, HR2.out, bt HK.out HB2.out⟩
  case round =>
    obtain ⟨q, P, Q, s, s', A, A', n, c, n', c', rfl, hq, hinv, hp0, hp1, hp2, hr1, hr2, hbel⟩ := hrel
    obtain ⟨hn, hn'⟩ := hinv.lens hr1 hr2
    have HINV := hJ hinv
    have H0 := hJ hp0
    have H1 := hJ hp1
    have H2 := hJ hp2
    have HR1 := hJ hr1
    have HR2 := hJ hr2
    have HB := hJ hbel
    obtain ⟨a0, a1⟩ := hp1.cells
    obtain ⟨b0, b1⟩ := hp2.cells
    clear hinv hp0 hp1 hp2 hr1 hr2 hbel
    rcases Nat.eq_zero_or_pos q with h0 | h0
    · subst h0
      have HPE := hJ (show P = 2 ^ k by have := HINV.out.1; rwa [Nat.pow_zero, Nat.mul_one] at this)
      obtain ⟨z0, z1⟩ := H0.out.cells
      have f0 := H0.out.frozen 0
      have f1 := H0.out.frozen 1
      go_wp2_with fail
      refine bodyPost_ret (results_cell_row rfl _ _ _ _ _ _ _ rfl (H0.out.all (.bool s) (.slice A n c)) Tryz.underlying24 rfl N_size) rfl ?_
      rw [← HPE.out]
      exact RNo.stored HR1.out H0.out rfl rfl HB.out (Nat.le_refl _) _ _
    · obtain ⟨z, hz⟩ : ∃ z : Int, (q : Int) = z := ⟨_, rfl⟩
      rw [hz]
      have hz1 : 0 < z := by omega
      have hz2 : z ≤ 20000 := by omega
      have HZ := hJ hz
      clear hz
      rcases Nat.mod_two_eq_zero_or_one q with hm | hm
      · have HN := hJ (HINV.out.even h0 hm)
        have hzm : z % 2 = 0 := by have := HZ.out; omega
        go_wp2_with fail
        refine (mul_any (Q : Int) (Q : Int) s' s' A' A' n' c' n' c' wr HR2.out HR2.out (by omega) (by omega)).mono ?_
        rintro e w5 ⟨s5, A5, n5, c5, rfl, hr5, hb5⟩
        rw [← Int.natCast_mul] at hr5
        have HR5 := hJ hr5
        have HB5 := hJ (HB.out.trans (hb5.mono HB.out.size))
        have H05 := hJ (H0.out.new hb5)
        have H15 := hJ (H1.out.new hb5)
        have H25 := hJ (H2.out.new hb5)
        have HR15 := hJ (HR1.out.new hb5)
        clear hr5 hb5 a0 a1 b0 b1
        obtain ⟨b50, b51⟩ := H25.out.cells
        have f0 := H25.out.frozen 0
        have f1 := H25.out.frozen 1
        go_wp2_with fail
        go_roundw
        case rel => exact ⟨q / 2, P, Q * Q, s, s5, A, A5, n, c, n5, c5, by have := HZ.out; exact congrArg _ (by omega), by omega, HN.out, H05.out.far2 (by omega) _ _, H15.out.far2 (by omega) _ _, H25.out.all _ _, HR15.out.box H25.out rfl rfl _ _, HR5.out.box H25.out rfl rfl _ _, below_box HB5.out (by omega) _ _⟩
        case measure => simp [intOf]; omega
      · have HN := hJ (HINV.out.odd hm)
        have hzm : z % 2 = 1 := by have := HZ.out; omega
        go_wp2_with fail
        refine (mul_any (P : Int) (Q : Int) s s' A A' n c n' c' wr HR1.out HR2.out (by omega) (by omega)).mono ?_
        rintro e w5 ⟨s5, A5, n5, c5, rfl, hr5, hb5⟩
        rw [← Int.natCast_mul] at hr5
        have HR5 := hJ hr5
        have HB5 := hJ (HB.out.trans (hb5.mono HB.out.size))
        have H05 := hJ (H0.out.new hb5)
        have H15 := hJ (H1.out.new hb5)
        have H25 := hJ (H2.out.new hb5)
        have HR25 := hJ (HR2.out.new hb5)
        clear hr5 hb5 a0 a1 b0 b1
        obtain ⟨a50, a51⟩ := H15.out.cells
        have f0 := H15.out.frozen 0
        have f1 := H15.out.frozen 1
        obtain ⟨x5, hx5⟩ : ∃ x, (w5.setCell ⟨g1, 0, none⟩ (.bool s5)).setCell ⟨g1, 1, none⟩ (.slice A5 n5 c5) = x := ⟨_, rfl⟩
        have HB6 := hJ (show Below w.heap.size w x5 by rw [← hx5]; exact below_box HB5.out (by omega) _ _)
        have H06 := hJ (show P2 24 x5 w.heap.size (.bool false) (.slice none 0 0) by rw [← hx5]; exact H05.out.far2 (by omega) _ _)
        have H16 := hJ (show P2 24 x5 g1 (.bool s5) (.slice A5 n5 c5) by rw [← hx5]; exact H15.out.all _ _)
        have H26 := hJ (show P2 24 x5 g2 (.bool s') (.slice A' n' c') by rw [← hx5]; exact H25.out.far2 (by omega) _ _)
        have HR56 := hJ (show RN x5 s5 A5 n5 c5 ((P * Q : Nat) : Int) by rw [← hx5]; exact HR5.out.box H15.out rfl rfl _ _)
        have HR26 := hJ (show RN x5 s' A' n' c' (Q : Int) by rw [← hx5]; exact HR25.out.box H15.out rfl rfl _ _)
        obtain ⟨b60, b61⟩ := H26.out.cells
        go_wp2_with fail
        refine (mul_any (Q : Int) (Q : Int) s' s' A' A' n' c' n' c' x5 HR26.out HR26.out (by omega) (by omega)).mono ?_
        rintro e w7 ⟨s7, A7, n7, c7, rfl, hr7, hb7⟩
        rw [← Int.natCast_mul] at hr7
        have HR7 := hJ hr7
        have HB7 := hJ (HB6.out.trans (hb7.mono HB6.out.size))
        have H07 := hJ (H06.out.new hb7)
        have H17 := hJ (H16.out.new hb7)
        have H27 := hJ (H26.out.new hb7)
        have HR57 := hJ (HR56.out.new hb7)
        clear hr7 hb7 a50 a51 b60 b61 f0 f1 hx5
        obtain ⟨b70, b71⟩ := H27.out.cells
        have f0 := H27.out.frozen 0
        have f1 := H27.out.frozen 1
        go_wp2_with fail
        go_roundw
        case rel => exact ⟨q / 2, P * Q, Q * Q, s5, s7, A5, A7, n5, c5, n7, c7, by have := HZ.out; exact congrArg _ (by omega), by omega, HN.out, H07.out.far2 (by omega) _ _, H17.out.far2 (by omega) _ _, H27.out.all _ _, HR57.out.box H27.out rfl rfl _ _, HR7.out.box H27.out rfl rfl _ _, below_box HB7.out (by omega) _ _⟩
        case measure => simp [intOf]; omega
end Go.Proofs.YtbhnaffbgggabaaGreat

namespace Go.Proofs.YtbhnaffbgggabaaGreat
open Go.RowKit
attribute [local go_sem ↓] Go.wp_at_zero Go.wp_at_succ
end Go.Proofs.YtbhnaffbgggabaaGreat

namespace Go.Proofs.YtbhnaffbgggabaaGreat
open Go.RowKit
attribute [local go_sem ↓] Go.wp_at_zero Go.wp_at_succ
/-- A slice of ints that came in, all of them ints. -/
def Got (w : World) (sv : Value) (xs : List Int) : Prop := Src .i64 w sv xs ∧ xs.length ≤ maxLen ∧ ∀ x ∈ xs, (Lit.int .i64 x).wf = true
theorem src_new {k : IntKind} {w w' : World} {sv : Value} {zs : List Int} (h : Src k w sv zs) (hb : Below w.heap.size w w') : Src k w' sv zs := by
  rcases h with h | ⟨ad, c, h1, h2, h3⟩
  · exact .inl h
  · exact .inr ⟨ad, c, h1, h2, fun j v hj => (hb.cell (World.block_lt_of_cell? w _ (h3 j v hj))).trans (h3 j v hj)⟩
theorem Got.new {w w' : World} {sv : Value} {zs : List Int} (h : Got w sv zs) (hb : Below w.heap.size w w') : Got w' sv zs := ⟨src_new h.1 hb, h.2⟩
theorem src_of_row {k : IntKind} {w : World} {a : Option Addr} {len cap : Nat} {zs : List Int}
    (h : (a = none ∧ len = 0 ∧ cap = 0 ∧ zs = []) ∨ ∃ x, a = some x ∧ len ≤ cap ∧ cap ≤ maxLen ∧ zs.length = cap ∧ (∀ i, i < zs.length → w.cell? (x.add i) = some (.int k (zs.getD i 0))) ∧ ∀ n ∈ zs, (Lit.int k n).wf = true) :
    Src k w (.slice a len cap) (zs.take len) ∧ (zs.take len).length ≤ maxLen ∧ ∀ n ∈ zs.take len, (Lit.int k n).wf = true := by
  rcases h with ⟨rfl, rfl, rfl, rfl⟩ | ⟨x, rfl, h1, h2, h3, h4, h5⟩
  · exact ⟨.inl ⟨rfl, rfl⟩, by simp, fun n hn => by simp at hn⟩
  · have hl : (zs.take len).length = len := by rw [List.length_take]; omega
    refine ⟨.inr ⟨x, cap, by rw [hl], by omega, fun j v hj => ?_⟩, by omega, fun n hn => h5 n (List.mem_of_mem_take hn)⟩
    have hjl : j < zs.length := by have := (List.getElem?_eq_some_iff.1 hj).1; omega
    rw [List.getElem?_take] at hj
    split at hj
    · have := h4 j hjl
      rw [List.getD_eq_getElem?_getD, hj] at this
      exact this
    · cases hj

def RowI (k : IntKind) (w : World) (a : Option Addr) (len cap : Nat) (zs : List Int) : Prop :=
  (a = none ∧ len = 0 ∧ cap = 0 ∧ zs = []) ∨ ∃ x, a = some x ∧ len ≤ cap ∧ cap ≤ maxLen ∧ zs.length = cap ∧ (∀ i, i < zs.length → w.cell? (x.add i) = some (.int k (zs.getD i 0))) ∧ ∀ n ∈ zs, (Lit.int k n).wf = true
theorem RowI.open_ {k : IntKind} {w : World} {a : Option Addr} {len cap : Nat} {zs : List Int} (h : RowI k w a len cap zs) :
    ∃ ls : List Int, ls.length = len ∧ len ≤ maxLen ∧ (∀ x ∈ ls, (Lit.int k x).wf = true) ∧ Src k w (.slice a len cap) ls := by
  obtain ⟨h1, h2, h3⟩ := src_of_row h
  have hl : (zs.take len).length = len := by
    rcases h with ⟨_, rfl, _, rfl⟩ | ⟨x, _, h4, h5, h6, _⟩
    · rfl
    · rw [List.length_take]; omega
  exact ⟨zs.take len, hl, by rw [← hl]; exact h2, h3, h1⟩

theorem two_lim {x : Int} {k : Nat} (h : x.natAbs < 2 ^ k) (hk : k ≤ 32 * limE) : x.natAbs < lim := by
  rw [lim_two]
  exact Nat.lt_of_lt_of_le h (Nat.pow_le_pow_right (by decide) hk)
theorem mul_two {x y : Int} {j k : Nat} (hx : x.natAbs < 2 ^ j) (hy : y.natAbs < 2 ^ k) : (x * y).natAbs < 2 ^ (j + k) := by
  rw [Int.natAbs_mul, Nat.pow_add]
  exact Nat.mul_lt_mul'' hx hy
theorem sum_two {x y : Int} {k : Nat} (hx : x.natAbs < 2 ^ k) (hy : y.natAbs < 2 ^ k) : (x + y).natAbs < 2 ^ (k + 1) ∧ (x - y).natAbs < 2 ^ (k + 1) := by
  rw [Nat.pow_succ]
  generalize 2 ^ k = B at *
  omega
/-- 2 to a power, never evaluated. -/
def B2 (k : Nat) : Nat := 2 ^ k
theorem B2.le {x : Int} {j k : Nat} (h : x.natAbs < B2 j) (hk : j ≤ k) : x.natAbs < B2 k := Nat.lt_of_lt_of_le h (Nat.pow_le_pow_right (by decide) hk)
theorem B2.mul {x y : Int} {j k : Nat} (hx : x.natAbs < B2 j) (hy : y.natAbs < B2 k) : (x * y).natAbs < B2 (j + k) := mul_two hx hy
theorem B2.add {x y : Int} {k : Nat} (hx : x.natAbs < B2 k) (hy : y.natAbs < B2 k) : (x + y).natAbs < B2 (k + 1) := (sum_two hx hy).1
theorem B2.neg {x : Int} {k : Nat} (hx : x.natAbs < B2 k) : (-x).natAbs < B2 k := by rw [Int.natAbs_neg]; exact hx
theorem B2.lim {x : Int} {k : Nat} (h : x.natAbs < B2 k) (hk : k ≤ 32 * limE) : x.natAbs < lim := two_lim h hk
theorem B2.rlen {x : Int} {w : World} {s : Bool} {A : Option Addr} {n c m : Nat} (h : RN w s A n c x) (hx : x.natAbs < B2 m) : n ≤ m := rn_len h hx
theorem B2.div {x y : Int} {k : Nat} (h : x.natAbs < B2 k) : (x / y).natAbs < B2 k := Nat.lt_of_le_of_lt (Int.natAbs_ediv_le_natAbs _ _) h
theorem nm_world {B : Nat} {a b : World} (_ : Below B a b) : ∃ v, v = b := ⟨b, rfl⟩
theorem cmpI_same {a b : Int} (h : a = b) : cmpI a b = 0 := by subst h; unfold cmpI; rw [if_neg (by omega), if_neg (by omega)]
theorem cmpI_less {a b : Int} (h : a < b) : cmpI a b = -1 := by unfold cmpI; rw [if_pos h]
theorem cmpI_ge {a : Int} (h : 0 ≤ a) : 0 ≤ cmpI a 0 := by unfold cmpI; rw [if_neg (by omega)]; split <;> omega
end Go.Proofs.YtbhnaffbgggabaaGreat
namespace Go.Proofs.YtbhnaffbgggabaaGreat
open Go.RowKit
theorem put_some (t : List Value) (ds : List Deferred) (d : Nat) (v : Value) : Act.put ⟨t.toArray, ds⟩ (some d) v = ⟨(t.set d v).toArray, ds⟩ := by
  simp [Act.put]
section
variable {P : Program} {ops : Array Oper} {Q : Exit → Act → World → Prop} {md : Region.Mode} {S : World → Prop}
/-- One operation is taken first (the side conditions by computation). -/
theorem tk (i : Nat) (v : Value) {oi : Oper} {fuel : Nat} {listed : Array Bool} {a : Act} {w : World}
    (hy : ∀ w, S w → (execOp a.eval oi).run P w = .ok (.value v) w)
    (h : wpAnyH P md ops Q S fuel (listed.setIfInBounds i true) (a.put oi.dst v) w)
    (hi : ops[i]? = some oi := by exact rfl) (hs : Region.noSelect ops = true := by kernel_rfl) (hf : Region.free md ops listed i = true := by kernel_rfl) (hr : (Region.ready md ops listed).contains i = true := by kernel_rfl)
    (hQ : ∀ c a w, Q (.panic c) (a.put oi.dst v) w → Q (.panic c) a w := by exact fun _ _ _ h => h) (hw : Region.wanted oi (yielded ops a.tmps) = true := by kernel_rfl) (hS : S w := by assumption) : wpAnyH P md ops Q S (fuel + 1) listed a w :=
  wpAnyH_take hi hs hf hr hQ (Or.inl ⟨hw, hy⟩) hS h
theorem tq (i : Nat) {v : Value} {oi : Oper} {fuel : Nat} {listed : Array Bool} {a : Act} {w : World}
    (h : wpAnyH P md ops Q S fuel (listed.setIfInBounds i true) (a.put oi.dst v) w)
    (hi : ops[i]? = some oi := by exact rfl) (hs : Region.noSelect ops = true := by kernel_rfl) (hf : Region.free md ops listed i = true := by kernel_rfl) (hr : (Region.ready md ops listed).contains i = true := by kernel_rfl)
    (hQ : ∀ c a w, Q (.panic c) (a.put oi.dst v) w → Q (.panic c) a w := by exact fun _ _ _ h => h) (hw : Region.wanted oi (yielded ops a.tmps) = true := by kernel_rfl) (hS : S w := by assumption)
    (hy : ∀ w, S w → (execOp a.eval oi).run P w = .ok (.value v) w := by intro w hSw; (try dsimp only at hSw); go_simp; all_goals (with_reducible rfl)) : wpAnyH P md ops Q S (fuel + 1) listed a w :=
  wpAnyH_take hi hs hf hr hQ (Or.inl ⟨hw, hy⟩) hS h
end
/-- A new name of a thing. -/
theorem nmz {α : Sort _} (a : α) : ∃ z, a = z := ⟨a, rfl⟩
theorem PT : (∀ (t : List Value) ds (d : Nat) (v : Value), Act.put ⟨t.toArray, ds⟩ (some d) v = ⟨(t.set d v).toArray, ds⟩) ∧ (∀ t ds v, Act.put ⟨t, ds⟩ none v = ⟨t, ds⟩) ∧ (∀ (α : Type) (l : List α) (i : Nat) (h : i < l.toArray.size), l.toArray[i] = l[i]'(by simpa using h)) ∧ (∀ (α : Type) (l : List α) (x : α) (h : 0 < (x :: l).length), (x :: l)[0] = x) ∧ (∀ (α : Type) (l : List α) (x : α) (i : Nat) (h : i + 1 < (x :: l).length), (x :: l)[i + 1] = l[i]'(by simpa using h)) ∧ (∀ (α : Type) (l : List α) (i : Nat) (x : α), l.toArray.setIfInBounds i x = (l.set i x).toArray) ∧ (∀ (α : Type) (l : List α) (x y : α), (y :: l).set 0 x = x :: l) ∧ (∀ (α : Type) (l : List α) (i : Nat) (x y : α), (y :: l).set (i + 1) x = y :: l.set i x) := by
  refine ⟨put_some, fun _ _ _ => rfl, ?_, ?_, ?_, ?_, ?_, ?_⟩ <;> intros <;> simp
end Go.Proofs.YtbhnaffbgggabaaGreat
