/- Contracts of the program's integers. Conditions: as each statement has them. -/
import Derived.Test.YtdamadkhbeonaaaB3
import Derived.WalkMore
import Derived.Deep.LoopGhost
namespace Go.Proofs.Ytdamadkhbeonaaa
open Go.RowKit
attribute [local go_sem ↓] Go.wp_at_zero Go.wp_at_succ

end Go.Proofs.Ytdamadkhbeonaaa

namespace Go.Proofs.Ytdamadkhbeonaaa
open Go.RowKit
attribute [local go_sem ↓] Go.wp_at_zero Go.wp_at_succ

/-- The program's integer: a sign, and the words of the absolute value, in a block of the kind ok. -/
def PIo (ok : Nat → Prop) (w : World) (neg : Bool) (A : Option Addr) (n c : Nat) (x : Int) : Prop := (neg = decide (x < 0)) ∧ (digs 4294967296 x.natAbs).length = n ∧ LO .u32 ok w (.slice A n c) (digs 4294967296 x.natAbs)
abbrev PI (w : World) (neg : Bool) (A : Option Addr) (n c : Nat) (x : Int) : Prop := PIo (fun _ => True) w neg A n c x
theorem PIo.new {ok : Nat → Prop} {w w' : World} {neg : Bool} {A : Option Addr} {n c : Nat} {x : Int} (h : PIo ok w neg A n c x) (hb : Below w.heap.size w w') : PIo ok w' neg A n c x := ⟨h.1, h.2.1, h.2.2.new hb⟩
theorem PIo.weak {ok : Nat → Prop} {w : World} {neg : Bool} {A : Option Addr} {n c : Nat} {x : Int} (h : PIo ok w neg A n c x) : PI w neg A n c x := ⟨h.1, h.2.1, h.2.2.weak⟩
theorem PIo.eq {ok : Nat → Prop} {w : World} {neg : Bool} {A : Option Addr} {n c : Nat} {x y : Int} (h : PIo ok w neg A n c x) (e : x = y) : PIo ok w neg A n c y := e ▸ h
theorem PIo.box {ok : Nat → Prop} {w : World} {neg : Bool} {A : Option Addr} {n c : Nat} {x : Int} {t : TypeId} {B : Nat} {z0 z1 : Value} (h : PIo ok w neg A n c x) (hp : P2 t w B z0 z1) (h0 : isI z0 = false) (h1 : isI z1 = false) (u0 u1 : Value) : PIo ok ((w.setCell ⟨B, 0, none⟩ u0).setCell ⟨B, 1, none⟩ u1) neg A n c x := ⟨h.1, h.2.1, h.2.2.box hp h0 h1 u0 u1⟩
theorem PI.zero (w : World) : PI w false none 0 0 0 := ⟨rfl, by rw [Int.natAbs_zero, digs_zero]; rfl, by rw [Int.natAbs_zero, digs_zero]; exact LO.nil⟩
/-- What a function returns that returns such an integer. -/
def RetP (x : Int) (w : World) (e : Ending) (w' : World) : Prop := ∃ neg A n c, e = .returned (.agg #[.bool neg, .slice A n c]) ∧ PI w' neg A n c x ∧ Below w.heap.size w w'
/-- The same with an error. -/
def RetPE (x code : Int) (w : World) (e : Ending) (w' : World) : Prop := ∃ neg A n c, e = .returned (.tuple #[.agg #[.bool neg, .slice A n c], .int .i64 code]) ∧ PI w' neg A n c x ∧ Below w.heap.size w w'
theorem W_size : (Try.prog.info? 48).map (·.size) = some 2 := by kernel_rfl
theorem results_cell1 {P : Program} {fn : Func} {p u : Tmp} {ty : TypeId} (h : fn.results = #[.cell p ty, .tmp u]) (tmps : Array Value) (w : World) (g : Nat) (t : TypeId) (cs : Array Value) (fr : Nat × Nat) (d : TypeDesc)
    (hp : tmps.getD p undef = .pointer (some ⟨g, 0, none⟩)) (hg : w.heap[g]? = some (.cells cs t fr))
    (hu : P.underlying ty = some d) (hd : (match d with | .struct _ | .array _ _ => true | _ => false) = true) (hi : (P.info? ty).map (·.size) = some cs.size) :
    (results fn tmps).run P w = .ok (.tuple #[.agg cs, tmps.getD u undef]) w := by
  have hp' : tmps[p]?.getD undef = .pointer (some ⟨g, 0, none⟩) := by simpa using hp
  simp [results, h, hp', asAddr, run_loadVar_row w g t ty cs fr d hg hu hd hi]
/-- 2 to 16384. -/
def limE : Nat := 512
def lim : Nat := 4294967296 ^ limE
theorem fits_gen (v k : Nat) : (digs 4294967296 v).length ≤ k ↔ v < 4294967296 ^ k := by
  constructor
  · intro h
    exact Nat.lt_of_lt_of_le (digs_lt (B := 4294967296) (by decide) v) (Nat.pow_le_pow_right (by decide) h)
  · exact fun h => digs_len_le (B := 4294967296) (by decide) h
theorem fits_iff (v : Nat) : (digs 4294967296 v).length ≤ 512 ↔ v < lim := by
  have h := fits_gen v limE
  unfold lim
  rw [← h]
  rfl
/-- What is in range, and the error. -/
def outV (x : Int) : Int := if x.natAbs < lim then x else 0
def outC (x : Int) : Int := if x.natAbs < lim then 0 else 4
theorem val_pi (x : Int) : val 4294967296 (digs 4294967296 x.natAbs) = x.natAbs := val_digs (by decide) _

set_option maxRecDepth 100000 in
set_option maxHeartbeats 1600000 in
theorem signed_any (neg : Bool) (l : List Nat) (A : Option Addr) (n c : Nat) (w : World) (hd : Dig 4294967296 l) (hl : LI .u32 w (.slice A n c) l) (hn : n ≤ 1000000) :
    Calls Try.prog 45 #[.bool neg, .slice A n c] w (RetP (sgn neg (val 4294967296 l)) w) := by
  obtain ⟨W, hW⟩ : ∃ W, w.alloc (.cells #[.bool false, .slice none 0 0] 48) = W := ⟨_, rfl⟩
  have HK := hJ (show Below w.heap.size w W by rw [← hW]; exact (Below.refl _ w).alloc (Nat.le_refl _) _)
  have HP := hJ (show P2 48 W w.heap.size (.bool false) (.slice none 0 0) by rw [← hW]; exact P2.lit _ _ _ _)
  have HT := hJ (trimmed_ok (fun _ => True) l A n c W hd (hl.new HK.out) hn)
  have HD := hJ hd
  clear hd hl
  have hp := HP.out
  obtain ⟨hc0, hc1⟩ := hp.cells
  have hf0 := hp.frozen 0
  have hf1 := hp.frozen 1
  clear hp
  go_enter Try.func45, Try.ntmps45
  go_wp2_with fail
  refine HT.out.mono ?_
  rintro e w' ⟨⟨k, rfl, hlk, hk, hkn, _⟩, rfl⟩
  have HLK := hJ hlk
  have HKK := hJ hk
  clear hlk hk hW
  rcases Nat.eq_zero_or_pos k with h0 | h0
  · have HV0 := hJ (show val 4294967296 l = 0 from (digs_nil (B := 4294967296) (by decide)).1 (List.eq_nil_of_length_eq_zero (by rw [HKK.out, h0])))
    subst h0
    go_wp2
    have hr := HP.out.all (.bool false) (.slice none 0 0)
    refine bodyPost_ret (results_cell_row rfl _ _ _ _ _ _ _ rfl hr Try.underlying48 rfl W_size) rfl ⟨false, none, 0, 0, rfl, ?_, below_box HK.out (Nat.le_refl _) _ _⟩
    rw [HV0.out, show sgn neg 0 = 0 by cases neg <;> rfl]
    exact PI.zero _
  · have hk0 : ((k : Int) == 0) = false := beq_eq_false_iff_ne.2 (by omega)
    have HVP := hJ (show 0 < val 4294967296 l by
      rcases Nat.eq_zero_or_pos (val 4294967296 l) with e | e
      · have := HKK.out; rw [e, digs_zero] at this; simp at this; omega
      · exact e)
    go_wp2
    have hr := HP.out.all (.bool neg) (.slice A k c)
    refine bodyPost_ret (results_cell_row rfl _ _ _ _ _ _ _ rfl hr Try.underlying48 rfl W_size) rfl ⟨neg, A, k, c, rfl, ⟨?_, ?_, ?_⟩, below_box HK.out (Nat.le_refl _) _ _⟩
    · rw [← sgn_neg, decide_eq_true HVP.out, Bool.and_true]
    · rw [sgn_abs]; exact HKK.out
    · rw [sgn_abs]; exact HLK.out.box HP.out rfl rfl _ _
set_option maxRecDepth 100000 in
set_option maxHeartbeats 1600000 in
theorem inRange_any (x : Int) (neg : Bool) (A : Option Addr) (n c : Nat) (w : World) (h : PI w neg A n c x) (hn : n ≤ 1000000) :
    Calls Try.prog 44 #[.agg #[.bool neg, .slice A n c]] w (RetPE (outV x) (outC x) w) := by
  obtain ⟨W, hW⟩ : ∃ W, (w.alloc (.cells #[.bool neg, .slice A n c] 48)).alloc (.cells #[.bool false, .slice none 0 0] 48) = W := ⟨_, rfl⟩
  have HK := hJ (show Below w.heap.size w W by rw [← hW]; exact W2_k _ _ _ _ _ _)
  have HA := hJ (show P2 48 W w.heap.size (.bool neg) (.slice A n c) by rw [← hW]; exact W2_a _ _ _ _ _ _)
  have HZ := hJ (show P2 48 W (w.heap.size + 1) (.bool false) (.slice none 0 0) by rw [← hW]; exact W2_z _ _ _ _ _ _)
  have HX := hJ (PIo.new h HK.out)
  have hnl := h.2.1
  obtain ⟨a0, a1⟩ := HA.out.cells
  obtain ⟨z0, z1⟩ := HZ.out.cells
  have f0 := HZ.out.frozen 0
  have f1 := HZ.out.frozen 1
  have HF := hJ (fits_iff x.natAbs)
  rw [hnl] at HF
  clear h hnl
  by_cases hle : n ≤ 512
  · have HLT := hJ (HF.out.1 hle)
    rw [show outV x = x from if_pos HLT.out, show outC x = 0 from if_pos HLT.out]
    have hgt : ¬ (512 : Int) < (n : Int) := by omega
    go_enter Try.func44, Try.ntmps44
    go_wp2
    have hr := HZ.out.all (.bool neg) (.slice A n c)
    refine bodyPost_ret (results_cell1 rfl _ _ _ _ _ _ _ rfl hr Try.underlying48 rfl W_size) rfl ⟨neg, A, n, c, rfl, HX.out.box HZ.out rfl rfl _ _, below_box HK.out (by omega) _ _⟩
  · have HLT := hJ (fun h => hle (HF.out.2 h))
    rw [show outV x = 0 from if_neg HLT.out, show outC x = 4 from if_neg HLT.out]
    have hgt : (512 : Int) < (n : Int) := by omega
    go_enter Try.func44, Try.ntmps44
    go_wp2
    have hr := HZ.out.all (.bool false) (.slice none 0 0)
    refine bodyPost_ret (results_cell1 rfl _ _ _ _ _ _ _ rfl hr Try.underlying48 rfl W_size) rfl ⟨false, none, 0, 0, rfl, PI.zero _, below_box HK.out (by omega) _ _⟩
end Go.Proofs.Ytdamadkhbeonaaa

namespace Go.Proofs.Ytdamadkhbeonaaa
open Go.RowKit
attribute [local go_sem ↓] Go.wp_at_zero Go.wp_at_succ

theorem RetP.stored {x : Int} {w w6 : World} {neg : Bool} {A : Option Addr} {n c B : Nat} {z0 z1 : Value} {t : TypeId} (h : PI w6 neg A n c x) (hp : P2 t w6 B z0 z1) (h0 : isI z0 = false) (h1 : isI z1 = false) (hb : Below w.heap.size w w6) (hB : w.heap.size ≤ B) (u0 u1 : Value) :
    RetP x w (.returned (.agg #[.bool neg, .slice A n c])) ((w6.setCell ⟨B, 0, none⟩ u0).setCell ⟨B, 1, none⟩ u1) :=
  ⟨neg, A, n, c, rfl, h.box hp h0 h1 u0 u1, below_box hb hB u0 u1⟩
theorem dig_two (m : Nat) (h : m < 18446744073709551616) : Dig 4294967296 [m % 4294967296, m / 4294967296] := dig_cons.2 ⟨by omega, dig_cons.2 ⟨by omega, dig_nil⟩⟩
theorem val_two (m : Nat) : val 4294967296 [m % 4294967296, m / 4294967296] = m := by simp [val]; omega
set_option maxRecDepth 100000 in
set_option maxHeartbeats 1600000 in
theorem from_any (x : Int) (w : World) (hx : (Lit.int .i64 x).wf = true) :
    Calls Try.prog 47 #[.int .i64 x] w (RetP x w) := by
  have hb : -9223372036854775808 ≤ x ∧ x ≤ 9223372036854775807 := by
    simpa [Lit.wf, IntKind.min, IntKind.max, IntKind.signed, IntKind.bits] using hx
  obtain ⟨hb1, hb2⟩ := hb
  clear hx
  obtain ⟨W, hW⟩ : ∃ W, w.alloc (.cells #[.bool false, .slice none 0 0] 48) = W := ⟨_, rfl⟩
  have HK := hJ (show Below w.heap.size w W by rw [← hW]; exact (Below.refl _ w).alloc (Nat.le_refl _) _)
  have HP := hJ (show P2 48 W w.heap.size (.bool false) (.slice none 0 0) by rw [← hW]; exact P2.lit _ _ _ _)
  obtain ⟨m, hm⟩ : ∃ m, x.natAbs = m := ⟨_, rfl⟩
  have HM := hJ hm
  have hml : m < 18446744073709551616 := by omega
  have HWO := hJ (wordsOf_any m W hml)
  have HD2 := hJ (dig_two m hml)
  have HV2 := hJ (val_two m)
  by_cases hneg : x < 0
  · have HS := hJ (show sgn true m = x by unfold sgn; simp; omega)
    have e1 : IntKind.u64.wrap x = x + 18446744073709551616 := by rw [wu64]; omega
    have e2 : IntKind.u64.wrap (-(x + 18446744073709551616)) = (m : Int) := by rw [wu64]; omega
    clear hm hml
    go_enter Try.func47, Try.ntmps47
    go_wp2_with fail
    refine HWO.out.mono ?_
    rintro e w2 ⟨rfl, hblk, hb2⟩
    have HBK := hJ hblk
    have HB2 := hJ hb2
    clear hblk hb2 hW
    go_wp2_with fail
    refine (signed_any true _ _ 2 2 w2 HD2.out (HBK.out.li0 rfl (Nat.le_refl _)).weak (by decide)).mono ?_
    rw [HV2.out, HS.out]
    rintro e w6 ⟨neg6, A6, n6, c6, rfl, hr6, hb6⟩
    have hp := (HP.out.new HB2.out).new hb6
    obtain ⟨hc0, hc1⟩ := hp.cells
    have hf0 := hp.frozen 0
    have hf1 := hp.frozen 1
    have HPP := hJ hp
    have HR := hJ hr6
    have HB := hJ ((HK.out.trans (HB2.out.mono HK.out.size)).trans (hb6.mono (HK.out.trans (HB2.out.mono HK.out.size)).size))
    clear hp hr6 hb6
    go_wp2
    exact bodyPost_ret (results_cell_row rfl _ _ _ _ _ _ _ rfl (HPP.out.all (.bool neg6) (.slice A6 n6 c6)) Try.underlying48 rfl W_size) rfl (RetP.stored HR.out HPP.out rfl rfl HB.out (Nat.le_refl _) _ _)
  · have HS := hJ (show sgn false m = x by unfold sgn; simp; omega)
    have e1 : x = (m : Int) := by omega
    subst e1
    clear hm hml
    go_enter Try.func47, Try.ntmps47
    go_wp2_with fail
    refine HWO.out.mono ?_
    rintro e w2 ⟨rfl, hblk, hb2⟩
    have HBK := hJ hblk
    have HB2 := hJ hb2
    clear hblk hb2 hW
    go_wp2_with fail
    refine (signed_any false _ _ 2 2 w2 HD2.out (HBK.out.li0 rfl (Nat.le_refl _)).weak (by decide)).mono ?_
    rw [HV2.out, HS.out]
    rintro e w6 ⟨neg6, A6, n6, c6, rfl, hr6, hb6⟩
    have hp := (HP.out.new HB2.out).new hb6
    obtain ⟨hc0, hc1⟩ := hp.cells
    have hf0 := hp.frozen 0
    have hf1 := hp.frozen 1
    have HPP := hJ hp
    have HR := hJ hr6
    have HB := hJ ((HK.out.trans (HB2.out.mono HK.out.size)).trans (hb6.mono (HK.out.trans (HB2.out.mono HK.out.size)).size))
    clear hp hr6 hb6
    go_wp2
    exact bodyPost_ret (results_cell_row rfl _ _ _ _ _ _ _ rfl (HPP.out.all (.bool neg6) (.slice A6 n6 c6)) Try.underlying48 rfl W_size) rfl (RetP.stored HR.out HPP.out rfl rfl HB.out (Nat.le_refl _) _ _)

set_option maxRecDepth 100000 in
set_option maxHeartbeats 1600000 in
theorem pcompare_any (x y : Int) (neg neg' : Bool) (A A' : Option Addr) (n c n' c' : Nat) (w : World) (hx : PI w neg A n c x) (hy : PI w neg' A' n' c' y) (hn : n ≤ 900000) (hn' : n' ≤ 900000) :
    Calls Try.prog 48 #[.agg #[.bool neg, .slice A n c], .agg #[.bool neg', .slice A' n' c']] w fun e w' => e = .returned (.int .i64 (cmpI x y)) ∧ Below w.heap.size w w' := by
  have HSX := hJ hx.1
  have HSY := hJ hy.1
  have HLX := hJ hx.2.2
  have HLY := hJ hy.2.2
  clear hx hy
  have hb0 : ∀ o o' : Obj, Below w.heap.size w ((w.alloc o).alloc o') := fun o o' => ((Below.refl _ w).alloc (Nat.le_refl _) o).alloc (by simp) o'
  have HB := hJ hb0
  clear hb0
  cases neg <;> cases neg'
  · have HE := hJ (cmpI_pp (a := x) (b := y) (by have := HSX.out; simpa using this.symm) (by have := HSY.out; simpa using this.symm))
    go_enter Try.func48, Try.ntmps48
    go_wp2_with fail
    refine (compareWords_any x.natAbs y.natAbs A A' n n' c c' _ (HLX.out.new (HB.out _ _)) (HLY.out.new (HB.out _ _)) (by omega) (by omega)).mono ?_
    rintro e w' ⟨rfl, hb⟩
    have HB2 := hJ ((HB.out _ _).trans (hb.mono (HB.out _ _).size))
    clear hb
    go_wp2
    go_ret
    exact ⟨ret_int HE.out.symm, HB2.out⟩
  · have HE := hJ (cmpI_pn (a := x) (b := y) (by have := HSX.out; simpa using this.symm) (by have := HSY.out; simpa using this.symm))
    go_enter Try.func48, Try.ntmps48
    go_wp2_with fail
    go_ret
    exact ⟨ret_int HE.out.symm, HB.out _ _⟩
  · have HE := hJ (cmpI_np (a := x) (b := y) (by have := HSX.out; simpa using this.symm) (by have := HSY.out; simpa using this.symm))
    go_enter Try.func48, Try.ntmps48
    go_wp2_with fail
    go_ret
    exact ⟨ret_int HE.out.symm, HB.out _ _⟩
  · have HE := hJ (cmpI_nn (a := x) (b := y) (by have := HSX.out; simpa using this.symm) (by have := HSY.out; simpa using this.symm))
    go_enter Try.func48, Try.ntmps48
    go_wp2_with fail
    refine (compareWords_any y.natAbs x.natAbs A' A n' n c' c _ (HLY.out.new (HB.out _ _)) (HLX.out.new (HB.out _ _)) (by omega) (by omega)).mono ?_
    rintro e w' ⟨rfl, hb⟩
    have HB2 := hJ ((HB.out _ _).trans (hb.mono (HB.out _ _).size))
    clear hb
    go_wp2
    go_ret
    exact ⟨ret_int HE.out.symm, HB2.out⟩
set_option maxRecDepth 100000 in
set_option maxHeartbeats 1600000 in
theorem sign_any (x : Int) (neg : Bool) (A : Option Addr) (n c : Nat) (w : World) (hx : PI w neg A n c x) (hn : n ≤ 900000) :
    Calls Try.prog 27 #[.agg #[.bool neg, .slice A n c]] w fun e w' => e = .returned (.int .i64 (cmpI x 0)) ∧ Below w.heap.size w w' := by
  have hb0 := (Below.refl w.heap.size w).alloc (Nat.le_refl _) (.cells #[.bool neg, .slice A n c] 48)
  have HB := hJ hb0
  have HX := hJ (hx.new hb0)
  clear hx hb0
  go_enter Try.func27, Try.ntmps27
  go_wp2_with fail
  refine (pcompare_any x 0 neg false A none n c 0 0 _ HX.out (PI.zero _) (by omega) (by omega)).mono ?_
  rintro e w' ⟨rfl, hb⟩
  have HB2 := hJ (HB.out.trans (hb.mono HB.out.size))
  clear hb
  go_wp2
  go_ret
  exact ⟨rfl, HB2.out⟩
set_option maxRecDepth 100000 in
set_option maxHeartbeats 1600000 in
theorem pneg_any (x : Int) (neg : Bool) (A : Option Addr) (n c : Nat) (w : World) (hx : PI w neg A n c x) (hn : n ≤ 900000) :
    Calls Try.prog 43 #[.agg #[.bool neg, .slice A n c]] w (RetP (-x) w) := by
  have HS := hJ hx.1
  have HL := hJ hx.2.1
  have HK := hJ (W2_k 48 w (.bool neg) (.slice A n c) (.bool false) (.slice none 0 0)).drew
  have HA := hJ (show P2 48 (W2 48 w (.bool neg) (.slice A n c) (.bool false) (.slice none 0 0)).drew w.heap.size (.bool neg) (.slice A n c) from W2_a _ _ _ _ _ _)
  have HZ := hJ (show P2 48 (W2 48 w (.bool neg) (.slice A n c) (.bool false) (.slice none 0 0)).drew (w.heap.size + 1) (.bool false) (.slice none 0 0) from W2_z _ _ _ _ _ _)
  have HX := hJ (hx.2.2.new HK.out)
  have HSG := hJ (show sgn (!neg) x.natAbs = -x by rw [hx.1]; exact sgn_not x)
  clear hx
  go_enter Try.func43, Try.ntmps43
  go_wp2_with fail
  go_region_held3 (fun w' => w'.cell? ⟨w.heap.size, 0, none⟩ = some (.bool neg) ∧ w'.cell? ⟨w.heap.size, 1, none⟩ = some (.slice A n c)) (first | assumption | exact HA.out.cells | exact (hA6.out.far2 (by omega) _ _).cells | go_keep)
    (first | (go_at_call 57; refine (copied_any _ A n c _ HX.out (by omega)).mono ?_; rintro e w5 ⟨rfl, hblk5, hb5⟩; have hS5 := (HA.out.new hb5).cells) | (go_at_call 45; refine (signed_any (!neg) _ _ n n _ (dig_digs (by decide) x.natAbs) (hblk5.li0 HL.out (Nat.le_refl _)).weak (by omega)).mono ?_; rw [val_pi, HSG.out]; rintro e w6 ⟨neg6, A6, n6, c6, rfl, hr6, hb6⟩; have hA6 := hJ ((HA.out.new hb5).new hb6); have hZ6 := hJ ((HZ.out.new hb5).new hb6); have hS6 := ((HA.out.new hb5).new hb6).cells; have hc60 := ((HZ.out.new hb5).new hb6).cells.1; have hc61 := ((HZ.out.new hb5).new hb6).cells.2; have hf60 := ((HZ.out.new hb5).new hb6).frozen 0; have hf61 := ((HZ.out.new hb5).new hb6).frozen 1))
  have HR := hJ hr6
  have HBB := hJ ((HK.out.trans (hb5.mono HK.out.size)).trans (hb6.mono (HK.out.trans (hb5.mono HK.out.size)).size))
  clear hr6 hb5 hb6 hS5 hS6 hblk5
  go_wp2
  exact bodyPost_ret (results_cell_row rfl _ _ _ _ _ _ _ rfl (hZ6.out.all (.bool neg6) (.slice A6 n6 c6)) Try.underlying48 rfl W_size) rfl (RetP.stored HR.out hZ6.out rfl rfl HBB.out (by omega) _ _)
end Go.Proofs.Ytdamadkhbeonaaa

namespace Go.Proofs.Ytdamadkhbeonaaa
open Go.RowKit
attribute [local go_sem ↓] Go.wp_at_zero Go.wp_at_succ

end Go.Proofs.Ytdamadkhbeonaaa

namespace Go.Proofs.Ytdamadkhbeonaaa
open Go.RowKit
attribute [local go_sem ↓] Go.wp_at_zero Go.wp_at_succ

theorem RetPE.stored {x code : Int} {w w6 : World} {neg : Bool} {A : Option Addr} {n c B : Nat} {z0 z1 : Value} {t : TypeId} (h : PI w6 neg A n c x) (hp : P2 t w6 B z0 z1) (h0 : isI z0 = false) (h1 : isI z1 = false) (hb : Below w.heap.size w w6) (hB : w.heap.size ≤ B) (u0 u1 : Value) :
    RetPE x code w (.returned (.tuple #[.agg #[.bool neg, .slice A n c], .int .i64 code])) ((w6.setCell ⟨B, 0, none⟩ u0).setCell ⟨B, 1, none⟩ u1) :=
  ⟨neg, A, n, c, rfl, h.box hp h0 h1 u0 u1, below_box hb hB u0 u1⟩
theorem in_lim {x : Int} (h : x.natAbs < lim) : outV x = x ∧ outC x = 0 := ⟨if_pos h, if_pos h⟩
theorem len_of {w : World} {neg : Bool} {A : Option Addr} {n c k : Nat} {s : Bool} {o : List Nat} {z : Int} (h : PI w neg A n c z) (hz : sgn s (val 4294967296 o) = z) (hd : Dig 4294967296 o) (hl : o.length = k) (hk : k ≤ 1000000) : n ≤ 1000000 := by
  have := h.2.1
  rw [← hz, sgn_abs] at this
  have := digs_len9 (B := 4294967296) (by decide) hd
  omega
set_option maxRecDepth 100000 in
set_option maxHeartbeats 1600000 in
theorem pmul_any (x y : Int) (s s' : Bool) (A A' : Option Addr) (n c n' c' : Nat) (w : World) (hx : PI w s A n c x) (hy : PI w s' A' n' c' y) (hn : n ≤ 300000) (hn' : n' ≤ 300000) :
    Calls Try.prog 25 #[.agg #[.bool s, .slice A n c], .agg #[.bool s', .slice A' n' c']] w (RetPE (outV (x * y)) (outC (x * y)) w) := by
  have HSX := hJ hx.1
  have HSY := hJ hy.1
  have HNX := hJ hx.2.1
  have HNY := hJ hy.2.1
  have HLX := hJ hx.2.2
  have HLY := hJ hy.2.2
  clear hx hy
  have HK := hJ (show Below w.heap.size w (W3 48 w (.bool s) (.slice A n c) (.bool s') (.slice A' n' c') (.bool false) (.slice none 0 0)).drew from (W3_k 48 w (.bool s) (.slice A n c) (.bool s') (.slice A' n' c') (.bool false) (.slice none 0 0)).drew)
  have HA := hJ (show P2 48 (W3 48 w (.bool s) (.slice A n c) (.bool s') (.slice A' n' c') (.bool false) (.slice none 0 0)).drew w.heap.size (.bool s) (.slice A n c) from (W3_a 48 w (.bool s) (.slice A n c) (.bool s') (.slice A' n' c') (.bool false) (.slice none 0 0)))
  have HB := hJ (show P2 48 (W3 48 w (.bool s) (.slice A n c) (.bool s') (.slice A' n' c') (.bool false) (.slice none 0 0)).drew (w.heap.size + 1) (.bool s') (.slice A' n' c') from (W3_b 48 w (.bool s) (.slice A n c) (.bool s') (.slice A' n' c') (.bool false) (.slice none 0 0)))
  have HZ := hJ (show P2 48 (W3 48 w (.bool s) (.slice A n c) (.bool s') (.slice A' n' c') (.bool false) (.slice none 0 0)).drew (w.heap.size + 1 + 1) (.bool false) (.slice none 0 0) from (W3_z 48 w (.bool s) (.slice A n c) (.bool s') (.slice A' n' c') (.bool false) (.slice none 0 0)))
  go_enter Try.func25, Try.ntmps25
  go_wp2_with fail
  go_region_held3 (fun w' => w'.cell? ⟨w.heap.size, 0, none⟩ = some (.bool s) ∧ w'.cell? ⟨w.heap.size, 1, none⟩ = some (.slice A n c) ∧ w'.cell? ⟨w.heap.size + 1, 0, none⟩ = some (.bool s') ∧ w'.cell? ⟨w.heap.size + 1, 1, none⟩ = some (.slice A' n' c')) (first | assumption | exact cells4 HA.out HB.out | exact cells4 (hA7.out.far2 (by omega) _ _) (hB7.out.far2 (by omega) _ _) | go_keep)
    (first | (go_at_call 46; refine (product_any _ _ A A' n n' c c' _ (dig_digs (by decide) x.natAbs) (dig_digs (by decide) y.natAbs) (HLX.out.new HK.out) (HLY.out.new HK.out) (by omega) (by omega)).mono ?_; rintro e w5 ⟨G5, n5, o5, rfl, hg5, hblk5, hol5, hod5, ⟨hov5, hon5⟩, hb5⟩; have hA5 := hJ (HA.out.new hb5); have hB5 := hJ (HB.out.new hb5); have hZ5 := hJ (HZ.out.new hb5); have hS5 := cells4 hA5.out hB5.out; have HVV := hJ (show sgn (s != s') (val 4294967296 o5) = x * y from (by rw [hov5, val_pi, val_pi]; exact mul_sign HSX.out HSY.out)); have hn5 : n5 ≤ 1000000 := (by omega); have HBK5 := hJ hblk5; have HOL5 := hJ hol5; have HOD5 := hJ hod5; clear hov5 hon5 hol5 hblk5 hod5) | (go_at_call 45; refine (signed_any (s != s') o5 _ n5 n5 _ HOD5.out (HBK5.out.li0 HOL5.out (Nat.le_refl _)).weak hn5).mono ?_; rw [HVV.out]; rintro e w6 ⟨neg6, A6, n6, c6, rfl, hr6, hb6⟩; have hA6 := hJ (hA5.out.new hb6); have hB6 := hJ (hB5.out.new hb6); have hZ6 := hJ (hZ5.out.new hb6); have hS6 := cells4 hA6.out hB6.out; have HR6 := hJ hr6; clear hr6) | (go_at_call 44; refine (inRange_any _ neg6 A6 n6 c6 _ HR6.out (len_of HR6.out HVV.out HOD5.out HOL5.out hn5)).mono ?_; rintro e w7 ⟨neg7, A7, n7, c7, rfl, hr7, hb7⟩; have hA7 := hJ (hA6.out.new hb7); have hB7 := hJ (hB6.out.new hb7); have hZ7 := hJ (hZ6.out.new hb7); have hS7 := cells4 hA7.out hB7.out; have hc70 := hZ7.out.cells.1; have hc71 := hZ7.out.cells.2; have hf70 := hZ7.out.frozen 0; have hf71 := hZ7.out.frozen 1; have HR7 := hJ hr7; clear hr7))
  have HBB := hJ (((HK.out.trans (hb5.mono HK.out.size)).trans (hb6.mono (HK.out.trans (hb5.mono HK.out.size)).size)).trans (hb7.mono ((HK.out.trans (hb5.mono HK.out.size)).trans (hb6.mono (HK.out.trans (hb5.mono HK.out.size)).size)).size))
  clear hb5 hb6 hb7 hS5 hS6 hS7
  go_wp2
  exact bodyPost_ret (results_cell1 rfl _ _ _ _ _ _ _ rfl (hZ7.out.all (.bool neg7) (.slice A7 n7 c7)) Try.underlying48 rfl W_size) rfl (RetPE.stored HR7.out hZ7.out rfl rfl HBB.out (by omega) _ _)
set_option maxRecDepth 100000 in
set_option maxHeartbeats 1600000 in
theorem padd_same (x y : Int) (s : Bool) (A A' : Option Addr) (n c n' c' : Nat) (w : World) (hx : PI w s A n c x) (hy : PI w s A' n' c' y) (hn : n ≤ 300000) (hn' : n' ≤ 300000) :
    Calls Try.prog 42 #[.agg #[.bool s, .slice A n c], .agg #[.bool s, .slice A' n' c']] w (RetPE (outV (x + y)) (outC (x + y)) w) := by
  have HSX := hJ hx.1
  have HSY := hJ hy.1
  have HNX := hJ hx.2.1
  have HNY := hJ hy.2.1
  have HLX := hJ hx.2.2
  have HLY := hJ hy.2.2
  clear hx hy
  have HK := hJ (show Below w.heap.size w (W3 48 w (.bool s) (.slice A n c) (.bool s) (.slice A' n' c') (.bool false) (.slice none 0 0)).drew from (W3_k 48 w (.bool s) (.slice A n c) (.bool s) (.slice A' n' c') (.bool false) (.slice none 0 0)).drew)
  have HA := hJ (show P2 48 (W3 48 w (.bool s) (.slice A n c) (.bool s) (.slice A' n' c') (.bool false) (.slice none 0 0)).drew w.heap.size (.bool s) (.slice A n c) from (W3_a 48 w (.bool s) (.slice A n c) (.bool s) (.slice A' n' c') (.bool false) (.slice none 0 0)))
  have HB := hJ (show P2 48 (W3 48 w (.bool s) (.slice A n c) (.bool s) (.slice A' n' c') (.bool false) (.slice none 0 0)).drew (w.heap.size + 1) (.bool s) (.slice A' n' c') from (W3_b 48 w (.bool s) (.slice A n c) (.bool s) (.slice A' n' c') (.bool false) (.slice none 0 0)))
  have HZ := hJ (show P2 48 (W3 48 w (.bool s) (.slice A n c) (.bool s) (.slice A' n' c') (.bool false) (.slice none 0 0)).drew (w.heap.size + 1 + 1) (.bool false) (.slice none 0 0) from (W3_z 48 w (.bool s) (.slice A n c) (.bool s) (.slice A' n' c') (.bool false) (.slice none 0 0)))
  go_enter Try.func42, Try.ntmps42
  go_wp2_with fail
  go_region_held3 (fun w' => w'.cell? ⟨w.heap.size, 0, none⟩ = some (.bool s) ∧ w'.cell? ⟨w.heap.size, 1, none⟩ = some (.slice A n c) ∧ w'.cell? ⟨w.heap.size + 1, 0, none⟩ = some (.bool s) ∧ w'.cell? ⟨w.heap.size + 1, 1, none⟩ = some (.slice A' n' c')) (first | assumption | exact cells4 HA.out HB.out | exact cells4 (hA7.out.far2 (by omega) _ _) (hB7.out.far2 (by omega) _ _) | go_keep)
    (first | (go_at_call 54; refine (sum_any _ _ A A' n n' c c' _ (dig_digs (by decide) x.natAbs) (dig_digs (by decide) y.natAbs) (HLX.out.new HK.out) (HLY.out.new HK.out) (by omega) (by omega)).mono ?_; rintro e w5 ⟨G5, n5, o5, rfl, hg5, hblk5, hol5, hod5, ⟨hov5, hon5⟩, hb5⟩; have hA5 := hJ (HA.out.new hb5); have hB5 := hJ (HB.out.new hb5); have hZ5 := hJ (HZ.out.new hb5); have hS5 := cells4 hA5.out hB5.out; have HVV := hJ (show sgn s (val 4294967296 o5) = x + y from (by rw [hov5, val_pi, val_pi]; exact add_same HSX.out HSY.out)); have hn5 : n5 ≤ 1000000 := (by omega); have HBK5 := hJ hblk5; have HOL5 := hJ hol5; have HOD5 := hJ hod5; clear hov5 hon5 hol5 hblk5 hod5) | (go_at_call 45; refine (signed_any s o5 _ n5 n5 _ HOD5.out (HBK5.out.li0 HOL5.out (Nat.le_refl _)).weak hn5).mono ?_; rw [HVV.out]; rintro e w6 ⟨neg6, A6, n6, c6, rfl, hr6, hb6⟩; have hA6 := hJ (hA5.out.new hb6); have hB6 := hJ (hB5.out.new hb6); have hZ6 := hJ (hZ5.out.new hb6); have hS6 := cells4 hA6.out hB6.out; have HR6 := hJ hr6; clear hr6) | (go_at_call 44; refine (inRange_any _ neg6 A6 n6 c6 _ HR6.out (len_of HR6.out HVV.out HOD5.out HOL5.out hn5)).mono ?_; rintro e w7 ⟨neg7, A7, n7, c7, rfl, hr7, hb7⟩; have hA7 := hJ (hA6.out.new hb7); have hB7 := hJ (hB6.out.new hb7); have hZ7 := hJ (hZ6.out.new hb7); have hS7 := cells4 hA7.out hB7.out; have hc70 := hZ7.out.cells.1; have hc71 := hZ7.out.cells.2; have hf70 := hZ7.out.frozen 0; have hf71 := hZ7.out.frozen 1; have HR7 := hJ hr7; clear hr7))
  have HBB := hJ (((HK.out.trans (hb5.mono HK.out.size)).trans (hb6.mono (HK.out.trans (hb5.mono HK.out.size)).size)).trans (hb7.mono ((HK.out.trans (hb5.mono HK.out.size)).trans (hb6.mono (HK.out.trans (hb5.mono HK.out.size)).size)).size))
  clear hb5 hb6 hb7 hS5 hS6 hS7
  go_wp2
  exact bodyPost_ret (results_cell1 rfl _ _ _ _ _ _ _ rfl (hZ7.out.all (.bool neg7) (.slice A7 n7 c7)) Try.underlying48 rfl W_size) rfl (RetPE.stored HR7.out hZ7.out rfl rfl HBB.out (by omega) _ _)
set_option maxRecDepth 100000 in
set_option maxHeartbeats 1600000 in
theorem padd_lt (x y : Int) (s s' : Bool) (A A' : Option Addr) (n c n' c' : Nat) (w : World) (hx : PI w s A n c x) (hy : PI w s' A' n' c' y) (hn : n ≤ 300000) (hn' : n' ≤ 300000) (_hfx : x.natAbs < lim) (_hfy : y.natAbs < lim) (hne : s ≠ s') (hlt : x.natAbs < y.natAbs) :
    Calls Try.prog 42 #[.agg #[.bool s, .slice A n c], .agg #[.bool s', .slice A' n' c']] w (RetPE (outV (x + y)) (outC (x + y)) w) := by
  have HSX := hJ hx.1
  have HSY := hJ hy.1
  have HNX := hJ hx.2.1
  have HNY := hJ hy.2.1
  have HLX := hJ hx.2.2
  have HLY := hJ hy.2.2
  clear hx hy
  have HK := hJ (show Below w.heap.size w (W3 48 w (.bool s) (.slice A n c) (.bool s') (.slice A' n' c') (.bool false) (.slice none 0 0)) from (W3_k 48 w (.bool s) (.slice A n c) (.bool s') (.slice A' n' c') (.bool false) (.slice none 0 0)))
  have HA := hJ (show P2 48 (W3 48 w (.bool s) (.slice A n c) (.bool s') (.slice A' n' c') (.bool false) (.slice none 0 0)) w.heap.size (.bool s) (.slice A n c) from (W3_a 48 w (.bool s) (.slice A n c) (.bool s') (.slice A' n' c') (.bool false) (.slice none 0 0)))
  have HB := hJ (show P2 48 (W3 48 w (.bool s) (.slice A n c) (.bool s') (.slice A' n' c') (.bool false) (.slice none 0 0)) (w.heap.size + 1) (.bool s') (.slice A' n' c') from (W3_b 48 w (.bool s) (.slice A n c) (.bool s') (.slice A' n' c') (.bool false) (.slice none 0 0)))
  have HZ := hJ (show P2 48 (W3 48 w (.bool s) (.slice A n c) (.bool s') (.slice A' n' c') (.bool false) (.slice none 0 0)) (w.heap.size + 1 + 1) (.bool false) (.slice none 0 0) from (W3_z 48 w (.bool s) (.slice A n c) (.bool s') (.slice A' n' c') (.bool false) (.slice none 0 0)))
  have hsb : (s == s') = false := beq_eq_false_iff_ne.2 hne
  obtain ⟨v, hv⟩ : ∃ v, cmpN x.natAbs y.natAbs = v := ⟨_, rfl⟩
  have hv0 : v < 0 := by rw [← hv, cmpN_lt hlt]; decide
  have HV := hJ hv
  have HSUM := hJ (add_lt HSX.out HSY.out hne (Nat.le_of_lt hlt))
  have HLIM := hJ (in_lim (x := x + y) (by
    rw [← HSUM.out, sgn_abs]
    omega))
  clear hv
  go_enter Try.func42, Try.ntmps42
  go_wp2_with fail
  refine (compareWords_any x.natAbs y.natAbs A A' n n' c c' (W3 48 w (.bool s) (.slice A n c) (.bool s') (.slice A' n' c') (.bool false) (.slice none 0 0)) (HLX.out.new HK.out) (HLY.out.new HK.out) (by omega) (by omega)).mono ?_
  rintro e w4 ⟨rfl, hb4⟩
  rw [HV.out]
  have HK4 := hJ (show Below w.heap.size w w4.drew from (HK.out.trans (hb4.mono HK.out.size)).drew)
  have HA4 := hJ (show P2 48 w4.drew w.heap.size (.bool s) (.slice A n c) from HA.out.new hb4.drew)
  have HB4 := hJ (show P2 48 w4.drew (w.heap.size + 1) (.bool s') (.slice A' n' c') from HB.out.new hb4.drew)
  have HZ4 := hJ (show P2 48 w4.drew (w.heap.size + 1 + 1) (.bool false) (.slice none 0 0) from HZ.out.new hb4.drew)
  clear hb4
  go_wp2_with fail
  go_region_held3 (fun w' => w'.cell? ⟨w.heap.size, 0, none⟩ = some (.bool s) ∧ w'.cell? ⟨w.heap.size, 1, none⟩ = some (.slice A n c) ∧ w'.cell? ⟨w.heap.size + 1, 0, none⟩ = some (.bool s') ∧ w'.cell? ⟨w.heap.size + 1, 1, none⟩ = some (.slice A' n' c')) (first | assumption | exact cells4 HA4.out HB4.out | exact cells4 (hA6.out.far2 (by omega) _ _) (hB6.out.far2 (by omega) _ _) | go_keep)
    (first | (go_at_call 56; refine (difference_any _ _ A' A n' n c' c _ (dig_digs (by decide) y.natAbs) (dig_digs (by decide) x.natAbs) (HLY.out.new HK4.out) (HLX.out.new HK4.out) (by omega) (by omega) (by rw [val_pi, val_pi]; omega)).mono ?_; rintro e w5 ⟨G5, n5, o5, rfl, hg5, hblk5, hol5, hod5, ⟨hov5, hon5⟩, hb5⟩; have hA5 := hJ (HA4.out.new hb5); have hB5 := hJ (HB4.out.new hb5); have hZ5 := hJ (HZ4.out.new hb5); have hS5 := cells4 hA5.out hB5.out; have HVV := hJ (show sgn s' (val 4294967296 o5) = x + y from (by rw [hov5, val_pi, val_pi]; exact HSUM.out)); have hn5 : n5 ≤ 1000000 := (by omega); have HBK5 := hJ hblk5; have HOL5 := hJ hol5; have HOD5 := hJ hod5; clear hov5 hon5 hol5 hblk5 hod5) | (go_at_call 45; refine (signed_any s' o5 _ n5 n5 _ HOD5.out (HBK5.out.li0 HOL5.out (Nat.le_refl _)).weak hn5).mono ?_; rw [HVV.out]; rintro e w6 ⟨neg6, A6, n6, c6, rfl, hr6, hb6⟩; have hA6 := hJ (hA5.out.new hb6); have hB6 := hJ (hB5.out.new hb6); have hZ6 := hJ (hZ5.out.new hb6); have hS6 := cells4 hA6.out hB6.out; have HR6 := hJ hr6; clear hr6; have hc60 := hZ6.out.cells.1; have hc61 := hZ6.out.cells.2; have hf60 := hZ6.out.frozen 0; have hf61 := hZ6.out.frozen 1))
  have HBB := hJ ((HK4.out.trans (hb5.mono HK4.out.size)).trans (hb6.mono (HK4.out.trans (hb5.mono HK4.out.size)).size))
  clear hb5 hb6 hS5 hS6
  go_wp2
  rw [HLIM.out.1, HLIM.out.2]
  exact bodyPost_ret (results_cell1 rfl _ _ _ _ _ _ _ rfl (hZ6.out.all (.bool neg6) (.slice A6 n6 c6)) Try.underlying48 rfl W_size) rfl (RetPE.stored HR6.out hZ6.out rfl rfl HBB.out (by omega) _ _)
set_option maxRecDepth 100000 in
set_option maxHeartbeats 1600000 in
theorem padd_ge (x y : Int) (s s' : Bool) (A A' : Option Addr) (n c n' c' : Nat) (w : World) (hx : PI w s A n c x) (hy : PI w s' A' n' c' y) (hn : n ≤ 300000) (hn' : n' ≤ 300000) (_hfx : x.natAbs < lim) (_hfy : y.natAbs < lim) (hne : s ≠ s') (hge : y.natAbs ≤ x.natAbs) :
    Calls Try.prog 42 #[.agg #[.bool s, .slice A n c], .agg #[.bool s', .slice A' n' c']] w (RetPE (outV (x + y)) (outC (x + y)) w) := by
  have HSX := hJ hx.1
  have HSY := hJ hy.1
  have HNX := hJ hx.2.1
  have HNY := hJ hy.2.1
  have HLX := hJ hx.2.2
  have HLY := hJ hy.2.2
  clear hx hy
  have HK := hJ (show Below w.heap.size w (W3 48 w (.bool s) (.slice A n c) (.bool s') (.slice A' n' c') (.bool false) (.slice none 0 0)) from (W3_k 48 w (.bool s) (.slice A n c) (.bool s') (.slice A' n' c') (.bool false) (.slice none 0 0)))
  have HA := hJ (show P2 48 (W3 48 w (.bool s) (.slice A n c) (.bool s') (.slice A' n' c') (.bool false) (.slice none 0 0)) w.heap.size (.bool s) (.slice A n c) from (W3_a 48 w (.bool s) (.slice A n c) (.bool s') (.slice A' n' c') (.bool false) (.slice none 0 0)))
  have HB := hJ (show P2 48 (W3 48 w (.bool s) (.slice A n c) (.bool s') (.slice A' n' c') (.bool false) (.slice none 0 0)) (w.heap.size + 1) (.bool s') (.slice A' n' c') from (W3_b 48 w (.bool s) (.slice A n c) (.bool s') (.slice A' n' c') (.bool false) (.slice none 0 0)))
  have HZ := hJ (show P2 48 (W3 48 w (.bool s) (.slice A n c) (.bool s') (.slice A' n' c') (.bool false) (.slice none 0 0)) (w.heap.size + 1 + 1) (.bool false) (.slice none 0 0) from (W3_z 48 w (.bool s) (.slice A n c) (.bool s') (.slice A' n' c') (.bool false) (.slice none 0 0)))
  have hsb : (s == s') = false := beq_eq_false_iff_ne.2 hne
  obtain ⟨v, hv⟩ : ∃ v, cmpN x.natAbs y.natAbs = v := ⟨_, rfl⟩
  have hv0 : ¬ v < 0 := by rw [← hv, cmpN, if_neg (by omega)]; split <;> decide
  have HV := hJ hv
  have HSUM := hJ (add_gt HSX.out HSY.out hne hge)
  have HLIM := hJ (in_lim (x := x + y) (by
    rw [← HSUM.out, sgn_abs]
    omega))
  clear hv
  go_enter Try.func42, Try.ntmps42
  go_wp2_with fail
  refine (compareWords_any x.natAbs y.natAbs A A' n n' c c' (W3 48 w (.bool s) (.slice A n c) (.bool s') (.slice A' n' c') (.bool false) (.slice none 0 0)) (HLX.out.new HK.out) (HLY.out.new HK.out) (by omega) (by omega)).mono ?_
  rintro e w4 ⟨rfl, hb4⟩
  rw [HV.out]
  have HK4 := hJ (show Below w.heap.size w w4.drew from (HK.out.trans (hb4.mono HK.out.size)).drew)
  have HA4 := hJ (show P2 48 w4.drew w.heap.size (.bool s) (.slice A n c) from HA.out.new hb4.drew)
  have HB4 := hJ (show P2 48 w4.drew (w.heap.size + 1) (.bool s') (.slice A' n' c') from HB.out.new hb4.drew)
  have HZ4 := hJ (show P2 48 w4.drew (w.heap.size + 1 + 1) (.bool false) (.slice none 0 0) from HZ.out.new hb4.drew)
  clear hb4
  go_wp2_with fail
  go_region_held3 (fun w' => w'.cell? ⟨w.heap.size, 0, none⟩ = some (.bool s) ∧ w'.cell? ⟨w.heap.size, 1, none⟩ = some (.slice A n c) ∧ w'.cell? ⟨w.heap.size + 1, 0, none⟩ = some (.bool s') ∧ w'.cell? ⟨w.heap.size + 1, 1, none⟩ = some (.slice A' n' c')) (first | assumption | exact cells4 HA4.out HB4.out | exact cells4 (hA6.out.far2 (by omega) _ _) (hB6.out.far2 (by omega) _ _) | go_keep)
    (first | (go_at_call 56; refine (difference_any _ _ A A' n n' c c' _ (dig_digs (by decide) x.natAbs) (dig_digs (by decide) y.natAbs) (HLX.out.new HK4.out) (HLY.out.new HK4.out) (by omega) (by omega) (by rw [val_pi, val_pi]; omega)).mono ?_; rintro e w5 ⟨G5, n5, o5, rfl, hg5, hblk5, hol5, hod5, ⟨hov5, hon5⟩, hb5⟩; have hA5 := hJ (HA4.out.new hb5); have hB5 := hJ (HB4.out.new hb5); have hZ5 := hJ (HZ4.out.new hb5); have hS5 := cells4 hA5.out hB5.out; have HVV := hJ (show sgn s (val 4294967296 o5) = x + y from (by rw [hov5, val_pi, val_pi]; exact HSUM.out)); have hn5 : n5 ≤ 1000000 := (by omega); have HBK5 := hJ hblk5; have HOL5 := hJ hol5; have HOD5 := hJ hod5; clear hov5 hon5 hol5 hblk5 hod5) | (go_at_call 45; refine (signed_any s o5 _ n5 n5 _ HOD5.out (HBK5.out.li0 HOL5.out (Nat.le_refl _)).weak hn5).mono ?_; rw [HVV.out]; rintro e w6 ⟨neg6, A6, n6, c6, rfl, hr6, hb6⟩; have hA6 := hJ (hA5.out.new hb6); have hB6 := hJ (hB5.out.new hb6); have hZ6 := hJ (hZ5.out.new hb6); have hS6 := cells4 hA6.out hB6.out; have HR6 := hJ hr6; clear hr6; have hc60 := hZ6.out.cells.1; have hc61 := hZ6.out.cells.2; have hf60 := hZ6.out.frozen 0; have hf61 := hZ6.out.frozen 1))
  have HBB := hJ ((HK4.out.trans (hb5.mono HK4.out.size)).trans (hb6.mono (HK4.out.trans (hb5.mono HK4.out.size)).size))
  clear hb5 hb6 hS5 hS6
  go_wp2
  rw [HLIM.out.1, HLIM.out.2]
  exact bodyPost_ret (results_cell1 rfl _ _ _ _ _ _ _ rfl (hZ6.out.all (.bool neg6) (.slice A6 n6 c6)) Try.underlying48 rfl W_size) rfl (RetPE.stored HR6.out hZ6.out rfl rfl HBB.out (by omega) _ _)
theorem padd_any (x y : Int) (s s' : Bool) (A A' : Option Addr) (n c n' c' : Nat) (w : World) (hx : PI w s A n c x) (hy : PI w s' A' n' c' y) (hn : n ≤ 300000) (hn' : n' ≤ 300000) (hfx : x.natAbs < lim) (hfy : y.natAbs < lim) :
    Calls Try.prog 42 #[.agg #[.bool s, .slice A n c], .agg #[.bool s', .slice A' n' c']] w (RetPE (outV (x + y)) (outC (x + y)) w) := by
  by_cases h : s = s'
  · subst h
    exact padd_same x y s A A' n c n' c' w hx hy hn hn'
  · rcases Nat.lt_or_ge x.natAbs y.natAbs with h1 | h1
    · exact padd_lt x y s s' A A' n c n' c' w hx hy hn hn' hfx hfy h h1
    · exact padd_ge x y s s' A A' n c n' c' w hx hy hn hn' hfx hfy h h1
end Go.Proofs.Ytdamadkhbeonaaa

namespace Go.Proofs.Ytdamadkhbeonaaa
open Go.RowKit
attribute [local go_sem ↓] Go.wp_at_zero Go.wp_at_succ

set_option maxRecDepth 100000 in
set_option maxHeartbeats 1600000 in
theorem psub_any (x y : Int) (s s' : Bool) (A A' : Option Addr) (n c n' c' : Nat) (w : World) (hx : PI w s A n c x) (hy : PI w s' A' n' c' y) (hn : n ≤ 300000) (hn' : n' ≤ 300000) (hfx : x.natAbs < lim) (hfy : y.natAbs < lim) :
    Calls Try.prog 24 #[.agg #[.bool s, .slice A n c], .agg #[.bool s', .slice A' n' c']] w (RetPE (outV (x - y)) (outC (x - y)) w) := by
  have HX := hJ hx
  have HY := hJ hy
  have HFX := hJ hfx
  have HFY := hJ (show (-y).natAbs < lim by rw [Int.natAbs_neg]; exact hfy)
  clear hx hy hfx hfy
  have HK := hJ (W3_k 48 w (.bool s) (.slice A n c) (.bool s') (.slice A' n' c') (.bool false) (.slice none 0 0)).drew
  have HA := hJ (show P2 48 (W3 48 w (.bool s) (.slice A n c) (.bool s') (.slice A' n' c') (.bool false) (.slice none 0 0)).drew w.heap.size (.bool s) (.slice A n c) from W3_a _ _ _ _ _ _ _ _)
  have HB := hJ (show P2 48 (W3 48 w (.bool s) (.slice A n c) (.bool s') (.slice A' n' c') (.bool false) (.slice none 0 0)).drew (w.heap.size + 1) (.bool s') (.slice A' n' c') from W3_b _ _ _ _ _ _ _ _)
  have HZ := hJ (show P2 48 (W3 48 w (.bool s) (.slice A n c) (.bool s') (.slice A' n' c') (.bool false) (.slice none 0 0)).drew (w.heap.size + 1 + 1) (.bool false) (.slice none 0 0) from W3_z _ _ _ _ _ _ _ _)
  go_enter Try.func24, Try.ntmps24
  go_wp2_with fail
  go_region_held3 (fun w' => w'.cell? ⟨w.heap.size, 0, none⟩ = some (.bool s) ∧ w'.cell? ⟨w.heap.size, 1, none⟩ = some (.slice A n c) ∧ w'.cell? ⟨w.heap.size + 1, 0, none⟩ = some (.bool s') ∧ w'.cell? ⟨w.heap.size + 1, 1, none⟩ = some (.slice A' n' c')) (first | assumption | exact cells4 HA.out HB.out | exact cells4 (hA6.out.far2 (by omega) _ _) (hB6.out.far2 (by omega) _ _) | go_keep)
    (first | (go_at_call 43; refine (pneg_any y s' A' n' c' _ (HY.out.new HK.out) (by omega)).mono ?_; rintro e w5 ⟨neg5, A5, n5, c5, rfl, hr5, hb5⟩; have hA5 := hJ (HA.out.new hb5); have hB5 := hJ (HB.out.new hb5); have hZ5 := hJ (HZ.out.new hb5); have hS5 := cells4 hA5.out hB5.out; have HR5 := hJ hr5; have hn5 : n5 ≤ 300000 := (by have h1 := hr5.2.1; have h2 := HY.out.2.1; rw [Int.natAbs_neg] at h1; omega); clear hr5) | (go_at_call 42; refine (padd_any x (-y) s neg5 A A5 n c n5 c5 _ ((HX.out.new HK.out).new hb5) HR5.out hn hn5 HFX.out HFY.out).mono ?_; rw [← Int.sub_eq_add_neg]; rintro e w6 ⟨neg6, A6, n6, c6, rfl, hr6, hb6⟩; have hA6 := hJ (hA5.out.new hb6); have hB6 := hJ (hB5.out.new hb6); have hZ6 := hJ (hZ5.out.new hb6); have hS6 := cells4 hA6.out hB6.out; have hc60 := hZ6.out.cells.1; have hc61 := hZ6.out.cells.2; have hf60 := hZ6.out.frozen 0; have hf61 := hZ6.out.frozen 1; have HR6 := hJ hr6; clear hr6))
  have HBB := hJ ((HK.out.trans (hb5.mono HK.out.size)).trans (hb6.mono (HK.out.trans (hb5.mono HK.out.size)).size))
  clear hb5 hb6 hS5 hS6
  go_wp2
  exact bodyPost_ret (results_cell1 rfl _ _ _ _ _ _ _ rfl (hZ6.out.all (.bool neg6) (.slice A6 n6 c6)) Try.underlying48 rfl W_size) rfl (RetPE.stored HR6.out hZ6.out rfl rfl HBB.out (by omega) _ _)
end Go.Proofs.Ytdamadkhbeonaaa

namespace Go.Proofs.Ytdamadkhbeonaaa
open Go.RowKit
attribute [local go_sem ↓] Go.wp_at_zero Go.wp_at_succ

end Go.Proofs.Ytdamadkhbeonaaa

