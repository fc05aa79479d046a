/- Contracts of the program's integers: signed, inRange, From, Compare, Sign, Neg. -/
import Derived.Test.YtpcliampffeknaaNPb
namespace Go.Proofs.Ytpcliampffeknaa
open Go.RowKit
attribute [local go_sem ↓] Go.wp_at_zero Go.wp_at_succ

/-- The program's integer: a sign, and the words of the absolute value, in a block of the kind ok. -/
def PIo (ok : Nat → Prop) (w : World) (neg : Bool) (A : Option Addr) (n c : Nat) (x : Int) : Prop := (neg = decide (x < 0)) ∧ (digs 4294967296 x.natAbs).length = n ∧ LO .u32 ok w (.slice A n c) (digs 4294967296 x.natAbs)
abbrev PI (w : World) (neg : Bool) (A : Option Addr) (n c : Nat) (x : Int) : Prop := PIo (fun _ => True) w neg A n c x
theorem PIo.new {ok : Nat → Prop} {w w' : World} {neg : Bool} {A : Option Addr} {n c : Nat} {x : Int} (h : PIo ok w neg A n c x) (hb : Below w.heap.size w w') : PIo ok w' neg A n c x := ⟨h.1, h.2.1, h.2.2.new hb⟩
theorem PIo.weak {ok : Nat → Prop} {w : World} {neg : Bool} {A : Option Addr} {n c : Nat} {x : Int} (h : PIo ok w neg A n c x) : PI w neg A n c x := ⟨h.1, h.2.1, h.2.2.weak⟩
theorem PIo.eq {ok : Nat → Prop} {w : World} {neg : Bool} {A : Option Addr} {n c : Nat} {x y : Int} (h : PIo ok w neg A n c x) (e : x = y) : PIo ok w neg A n c y := e ▸ h
theorem PIo.box {ok : Nat → Prop} {w : World} {neg : Bool} {A : Option Addr} {n c : Nat} {x : Int} {t : TypeId} {B : Nat} {z0 z1 : Value} (h : PIo ok w neg A n c x) (hp : P2 t w B z0 z1) (h0 : isI z0 = false) (h1 : isI z1 = false) (u0 u1 : Value) : PIo ok ((w.setCell ⟨B, 0, none⟩ u0).setCell ⟨B, 1, none⟩ u1) neg A n c x := ⟨h.1, h.2.1, h.2.2.box hp h0 h1 u0 u1⟩
theorem PI.zero (w : World) : PI w false none 0 0 0 := ⟨rfl, by rw [Int.natAbs_zero, digs_zero]; rfl, by rw [Int.natAbs_zero, digs_zero]; exact LO.nil⟩
/-- What a function returns that returns such an integer. -/
def RetP (x : Int) (w : World) (e : Ending) (w' : World) : Prop := ∃ neg A n c, e = .returned (.agg #[.bool neg, .slice A n c]) ∧ PI w' neg A n c x ∧ Below w.heap.size w w'
/-- The same with an error. -/
def RetPE (x code : Int) (w : World) (e : Ending) (w' : World) : Prop := ∃ neg A n c, e = .returned (.tuple #[.agg #[.bool neg, .slice A n c], .int .i64 code]) ∧ PI w' neg A n c x ∧ Below w.heap.size w w'
theorem W_size : (Try.prog.info? 33).map (·.size) = some 2 := by kernel_rfl
theorem results_cell1 {P : Program} {fn : Func} {p u : Tmp} {ty : TypeId} (h : fn.results = #[.cell p ty, .tmp u]) (tmps : Array Value) (w : World) (g : Nat) (t : TypeId) (cs : Array Value) (fr : Nat × Nat) (d : TypeDesc)
    (hp : tmps.getD p undef = .pointer (some ⟨g, 0, none⟩)) (hg : w.heap[g]? = some (.cells cs t fr))
    (hu : P.underlying ty = some d) (hd : (match d with | .struct _ | .array _ _ => true | _ => false) = true) (hi : (P.info? ty).map (·.size) = some cs.size) :
    (results fn tmps).run P w = .ok (.tuple #[.agg cs, tmps.getD u undef]) w := by
  have hp' : tmps[p]?.getD undef = .pointer (some ⟨g, 0, none⟩) := by simpa using hp
  simp [results, h, hp', asAddr, run_loadVar_row w g t ty cs fr d hg hu hd hi]
/-- 2 to 16384. -/
def limE : Nat := 512
def lim : Nat := 4294967296 ^ limE
theorem fits_gen (v k : Nat) : (digs 4294967296 v).length ≤ k ↔ v < 4294967296 ^ k := by
  constructor
  · intro h
    exact Nat.lt_of_lt_of_le (digs_lt (B := 4294967296) (by decide) v) (Nat.pow_le_pow_right (by decide) h)
  · exact fun h => digs_len_le (B := 4294967296) (by decide) h
theorem fits_iff (v : Nat) : (digs 4294967296 v).length ≤ 512 ↔ v < lim := by
  have h := fits_gen v limE
  unfold lim
  rw [← h]
  rfl
/-- What is in range, and the error. -/
def outV (x : Int) : Int := if x.natAbs < lim then x else 0
def outC (x : Int) : Int := if x.natAbs < lim then 0 else 4
theorem val_pi (x : Int) : val 4294967296 (digs 4294967296 x.natAbs) = x.natAbs := val_digs (by decide) _

set_option maxRecDepth 100000 in
set_option maxHeartbeats 1600000 in
theorem signed_any (neg : Bool) (l : List Nat) (A : Option Addr) (n c : Nat) (w : World) (hd : Dig 4294967296 l) (hl : LI .u32 w (.slice A n c) l) (hn : n ≤ 1000000) :
    Calls Try.prog 49 #[.bool neg, .slice A n c] w (RetP (sgn neg (val 4294967296 l)) w) := by
  obtain ⟨W, hW⟩ : ∃ W, w.alloc (.cells #[.bool false, .slice none 0 0] 33) = W := ⟨_, rfl⟩
  have HK := Lib.hid (show Below w.heap.size w W by rw [← hW]; exact (Below.refl _ w).alloc (Nat.le_refl _) _)
  have HP := Lib.hid (show P2 33 W w.heap.size (.bool false) (.slice none 0 0) by rw [← hW]; exact P2.lit _ _ _ _)
  have HT := Lib.hid (trimmed_ok (fun _ => True) l A n c W hd (hl.new HK.out) hn)
  have HD := Lib.hid hd
  clear hd hl
  have hp := HP.out
  obtain ⟨hc0, hc1⟩ := hp.cells
  have hf0 := hp.frozen 0
  have hf1 := hp.frozen 1
  clear hp
  go_enter Try.func49, Try.ntmps49
  go_wp2_with fail
  refine HT.out.mono ?_
  rintro e w' ⟨⟨k, rfl, hlk, hk, hkn, _⟩, rfl⟩
  have HLK := Lib.hid hlk
  have HKK := Lib.hid hk
  clear hlk hk hW
  rcases Nat.eq_zero_or_pos k with h0 | h0
  · have HV0 := Lib.hid (show val 4294967296 l = 0 from (digs_nil (B := 4294967296) (by decide)).1 (List.eq_nil_of_length_eq_zero (by rw [HKK.out, h0])))
    subst h0
    go_wp2
    have hr := HP.out.all (.bool false) (.slice none 0 0)
    refine bodyPost_ret (results_cell_row rfl _ _ _ _ _ _ _ rfl hr Try.underlying33 rfl W_size) rfl ⟨false, none, 0, 0, rfl, ?_, below_box HK.out (Nat.le_refl _) _ _⟩
    rw [HV0.out, show sgn neg 0 = 0 by cases neg <;> rfl]
    exact PI.zero _
  · have hk0 : ((k : Int) == 0) = false := beq_eq_false_iff_ne.2 (by omega)
    have HVP := Lib.hid (show 0 < val 4294967296 l by
      rcases Nat.eq_zero_or_pos (val 4294967296 l) with e | e
      · have := HKK.out; rw [e, digs_zero] at this; simp at this; omega
      · exact e)
    go_wp2
    have hr := HP.out.all (.bool neg) (.slice A k c)
    refine bodyPost_ret (results_cell_row rfl _ _ _ _ _ _ _ rfl hr Try.underlying33 rfl W_size) rfl ⟨neg, A, k, c, rfl, ⟨?_, ?_, ?_⟩, below_box HK.out (Nat.le_refl _) _ _⟩
    · rw [← sgn_neg, decide_eq_true HVP.out, Bool.and_true]
    · rw [sgn_abs]; exact HKK.out
    · rw [sgn_abs]; exact HLK.out.box HP.out rfl rfl _ _
set_option maxRecDepth 100000 in
set_option maxHeartbeats 1600000 in
theorem inRange_any (x : Int) (neg : Bool) (A : Option Addr) (n c : Nat) (w : World) (h : PI w neg A n c x) (hn : n ≤ 1000000) :
    Calls Try.prog 48 #[.agg #[.bool neg, .slice A n c]] w (RetPE (outV x) (outC x) w) := by
  obtain ⟨W, hW⟩ : ∃ W, (w.alloc (.cells #[.bool neg, .slice A n c] 33)).alloc (.cells #[.bool false, .slice none 0 0] 33) = W := ⟨_, rfl⟩
  have HK := Lib.hid (show Below w.heap.size w W by rw [← hW]; exact W2_k _ _ _ _ _ _)
  have HA := Lib.hid (show P2 33 W w.heap.size (.bool neg) (.slice A n c) by rw [← hW]; exact W2_a _ _ _ _ _ _)
  have HZ := Lib.hid (show P2 33 W (w.heap.size + 1) (.bool false) (.slice none 0 0) by rw [← hW]; exact W2_z _ _ _ _ _ _)
  have HX := Lib.hid (PIo.new h HK.out)
  have hnl := h.2.1
  obtain ⟨a0, a1⟩ := HA.out.cells
  obtain ⟨z0, z1⟩ := HZ.out.cells
  have f0 := HZ.out.frozen 0
  have f1 := HZ.out.frozen 1
  have HF := Lib.hid (fits_iff x.natAbs)
  rw [hnl] at HF
  clear h hnl
  by_cases hle : n ≤ 512
  · have HLT := Lib.hid (HF.out.1 hle)
    rw [show outV x = x from if_pos HLT.out, show outC x = 0 from if_pos HLT.out]
    have hgt : ¬ (512 : Int) < (n : Int) := by omega
    go_enter Try.func48, Try.ntmps48
    go_wp2
    have hr := HZ.out.all (.bool neg) (.slice A n c)
    refine bodyPost_ret (results_cell1 rfl _ _ _ _ _ _ _ rfl hr Try.underlying33 rfl W_size) rfl ⟨neg, A, n, c, rfl, HX.out.box HZ.out rfl rfl _ _, below_box HK.out (by omega) _ _⟩
  · have HLT := Lib.hid (fun h => hle (HF.out.2 h))
    rw [show outV x = 0 from if_neg HLT.out, show outC x = 4 from if_neg HLT.out]
    have hgt : (512 : Int) < (n : Int) := by omega
    go_enter Try.func48, Try.ntmps48
    go_wp2
    have hr := HZ.out.all (.bool false) (.slice none 0 0)
    refine bodyPost_ret (results_cell1 rfl _ _ _ _ _ _ _ rfl hr Try.underlying33 rfl W_size) rfl ⟨false, none, 0, 0, rfl, PI.zero _, below_box HK.out (by omega) _ _⟩
end Go.Proofs.Ytpcliampffeknaa
