/- The contract of the reference's Div. -/
import Derived.Test.YtpcliampffeknaaNR8
import Derived.RegionTactic
import Derived.ChangeAlike
namespace Go.Proofs.Ytpcliampffeknaa
open Go.RowKit
attribute [local go_sem ↓] Go.wp_at_zero Go.wp_at_succ

theorem results_cell2 {P : Program} {fn : Func} {p q : Tmp} {ty ty' : TypeId} (h : fn.results = #[.cell p ty, .cell q ty']) (tmps : Array Value) (w : World) (g g' : Nat) (t t' : TypeId) (cs cs' : Array Value) (fr fr' : Nat × Nat) (d d' : TypeDesc)
    (hp : tmps.getD p undef = .pointer (some ⟨g, 0, none⟩)) (hq : tmps.getD q undef = .pointer (some ⟨g', 0, none⟩)) (hg : w.heap[g]? = some (.cells cs t fr)) (hg' : w.heap[g']? = some (.cells cs' t' fr'))
    (hu : P.underlying ty = some d) (hd : (match d with | .struct _ | .array _ _ => true | _ => false) = true) (hi : (P.info? ty).map (·.size) = some cs.size)
    (hu' : P.underlying ty' = some d') (hd' : (match d' with | .struct _ | .array _ _ => true | _ => false) = true) (hi' : (P.info? ty').map (·.size) = some cs'.size) :
    (results fn tmps).run P w = .ok (.tuple #[.agg cs, .agg cs']) w := by
  have hp' : tmps[p]?.getD undef = .pointer (some ⟨g, 0, none⟩) := by simpa using hp
  have hq' : tmps[q]?.getD undef = .pointer (some ⟨g', 0, none⟩) := by simpa using hq
  simp [results, h, hp', hq', asAddr, run_loadVar_row w g t ty cs fr d hg hu hd hi, run_loadVar_row w g' t' ty' cs' fr' d' hg' hu' hd' hi']
/-- Four blocks: two boxes, and two results. -/
theorem W4_facts (t : TypeId) (w W : World) (a0 a1 b0 b1 z0 z1 : Value) (hW : (((w.alloc (.cells #[a0, a1] t)).alloc (.cells #[b0, b1] t)).alloc (.cells #[z0, z1] t)).alloc (.cells #[z0, z1] t) = W) :
    P2 t W w.heap.size a0 a1 ∧ P2 t W (w.heap.size + 1) b0 b1 ∧ P2 t W (w.heap.size + 1 + 1) z0 z1 ∧ P2 t W (w.heap.size + 1 + 1 + 1) z0 z1 ∧ Below w.heap.size w W ∧ W.heap.size = w.heap.size + 4 := by
  subst hW
  refine ⟨(W3_a t w a0 a1 b0 b1 z0 z1).alloc _, (W3_b t w a0 a1 b0 b1 z0 z1).alloc _, (W3_z t w a0 a1 b0 b1 z0 z1).alloc _, ?_, (W3_k t w a0 a1 b0 b1 z0 z1).alloc (W3_k t w a0 a1 b0 b1 z0 z1).size _, by simp⟩
  have := P2.lit (W3 t w a0 a1 b0 b1 z0 z1) t z0 z1
  rw [show (W3 t w a0 a1 b0 b1 z0 z1).heap.size = w.heap.size + 1 + 1 + 1 by simp [W3]] at this
  exact this
/-- What Div returns. -/
def RetN2 (x y : Int) (w : World) (e : Ending) (w' : World) : Prop := ∃ s A n c s' A' n' c', e = .returned (.tuple #[.agg #[.bool s, .slice A n c], .agg #[.bool s', .slice A' n' c']]) ∧ RN w' s A n c x ∧ RN w' s' A' n' c' y ∧ Below w.heap.size w w'
def WQ (w : World) (g g' : Nat) (a b c d : Value) : World := (((w.setCell ⟨g, 0, none⟩ a).setCell ⟨g, 1, none⟩ b).setCell ⟨g', 0, none⟩ c).setCell ⟨g', 1, none⟩ d
theorem two_stored {t : TypeId} {w0 w : World} {g g' : Nat} {z0 z1 : Value} {x y : Int} {s s' : Bool} {A A' : Option Addr} {n c n' c' : Nat} (hq : P2 t w g z0 z1) (hr : P2 t w g' z0 z1) (h0 : isI z0 = false) (h1 : isI z1 = false) (hne : g ≠ g') (hx : RN w s A n c x) (hy : RN w s' A' n' c' y) (hb : Below w0.heap.size w0 w) (hg : w0.heap.size ≤ g) (hg' : w0.heap.size ≤ g') :
    P2 t (WQ w g g' (.bool s) (.slice A n c) (.bool s') (.slice A' n' c')) g (.bool s) (.slice A n c) ∧ P2 t (WQ w g g' (.bool s) (.slice A n c) (.bool s') (.slice A' n' c')) g' (.bool s') (.slice A' n' c') ∧
    RetN2 x y w0 (.returned (.tuple #[.agg #[.bool s, .slice A n c], .agg #[.bool s', .slice A' n' c']])) (WQ w g g' (.bool s) (.slice A n c) (.bool s') (.slice A' n' c')) := by
  have hr' := hr.far2 (g := g) hne.symm (.bool s) (.slice A n c)
  exact ⟨(hq.all _ _).far2 hne _ _, hr'.all _ _, s, A, n, c, s', A', n', c', rfl, ⟨hx.1, hx.2.1, (hx.2.2.box hq h0 h1 _ _).box hr' h0 h1 _ _⟩, ⟨hy.1, hy.2.1, (hy.2.2.box hq h0 h1 _ _).box hr' h0 h1 _ _⟩, below_box (below_box hb hg _ _) hg' _ _⟩
theorem quo_sgn {x y : Int} {s s' : Bool} (hx : s = decide (x < 0)) (hy : s' = decide (y < 0)) (q0 : Nat) : sgn (s != s') q0 = (if (x < 0) ↔ (y < 0) then (q0 : Int) else -(q0 : Int)) := by
  subst hx hy
  unfold sgn
  by_cases h1 : x < 0 <;> by_cases h2 : y < 0 <;> simp [h1, h2]
theorem div_a {x y : Int} {s s' : Bool} (hx : s = decide (x < 0)) (hy : s' = decide (y < 0)) (hy0 : y ≠ 0) (h : s = false ∨ x.natAbs % y.natAbs = 0) : sgn (s != s') (x.natAbs / y.natAbs) = x / y ∧ ((x.natAbs % y.natAbs : Nat) : Int) = x % y := by
  have hm := Nat.div_add_mod x.natAbs y.natAbs
  obtain ⟨h1, h2⟩ := div_of x y (x.natAbs / y.natAbs) (x.natAbs % y.natAbs) (by rw [Nat.mul_comm]; exact hm.symm) (Nat.mod_lt _ (by omega))
  have hn : ¬ (x < 0 ∧ x.natAbs % y.natAbs ≠ 0) := by
    rintro ⟨g1, g2⟩
    rcases h with h | h
    · rw [hx] at h; simp at h; omega
    · exact g2 h
  rw [if_neg hn] at h1 h2
  rw [quo_sgn hx hy, h1, h2, Int.add_zero]
  exact ⟨rfl, rfl⟩
theorem div_b {x y : Int} {s s' : Bool} (hx : s = decide (x < 0)) (hy : s' = decide (y < 0)) (hy0 : y ≠ 0) (hs : s = true) (h : x.natAbs % y.natAbs ≠ 0) : sgn (s != s') (x.natAbs / y.natAbs) + sgn (s != s') 1 = x / y ∧ ((y.natAbs - x.natAbs % y.natAbs : Nat) : Int) = x % y := by
  have hm := Nat.div_add_mod x.natAbs y.natAbs
  have hlt := Nat.mod_lt x.natAbs (show 0 < y.natAbs by omega)
  obtain ⟨h1, h2⟩ := div_of x y (x.natAbs / y.natAbs) (x.natAbs % y.natAbs) (by rw [Nat.mul_comm]; exact hm.symm) hlt
  have hx0 : x < 0 := by rw [hx] at hs; simpa using hs
  rw [if_pos ⟨hx0, h⟩] at h2
  rw [quo_sgn hx hy, quo_sgn hx hy, h1, h2]
  constructor
  · by_cases h3 : y < 0 <;> simp [hx0, h3, h]
  · omega

set_option maxRecDepth 100000 in
set_option maxHeartbeats 3200000 in
theorem div_any (x y : Int) (s s' : Bool) (A A' : Option Addr) (n c n' c' : Nat) (w : World) (hx : RN w s A n c x) (hy : RN w s' A' n' c' y) (hn : n ≤ 150000) (hn' : n' ≤ 150000) (hy0 : y ≠ 0) :
    Calls Try.prog 28 #[.agg #[.bool s, .slice A n c], .agg #[.bool s', .slice A' n' c']] w (RetN2 (x / y) (x % y) w) := by
  have HSX := Lib.hid hx.1
  have HSY := Lib.hid hy.1
  have HNX := Lib.hid hx.2.1
  have HNY := Lib.hid hy.2.1
  have HLX := Lib.hid hx.2.2
  have HLY := Lib.hid hy.2.2
  have HY0 := Lib.hid (show 0 < y.natAbs by omega)
  have HYY := Lib.hid hy0
  clear hx hy hy0
  obtain ⟨W, hW⟩ : ∃ W, (((w.alloc (.cells #[.bool s, .slice A n c] 25)).alloc (.cells #[.bool s', .slice A' n' c'] 25)).alloc (.cells #[.bool false, .slice none 0 0] 25)).alloc (.cells #[.bool false, .slice none 0 0] 25) = W := ⟨_, rfl⟩
  obtain ⟨fa, fb, fq, fr, fk, fs⟩ := W4_facts _ _ _ _ _ _ _ _ _ hW
  have HA := Lib.hid fa
  have HB := Lib.hid fb
  have HQ := Lib.hid fq
  have HR := Lib.hid fr
  have HK := Lib.hid fk
  obtain ⟨ca0, ca1⟩ := fa.cells
  obtain ⟨cb0, cb1⟩ := fb.cells
  clear fa fb fq fr fk fs
  go_enter Try.func28, Try.ntmps28
  go_wp2_with fail
  refine (divided_any x.natAbs y.natAbs A A' n n' c c' W HY0.out (HLX.out.new HK.out) (HLY.out.new HK.out) (by omega) (by omega)).mono ?_
  rintro e w1 ⟨A1, n1, c1, A2, n2, c2, o, rfl, hl1, hd1, hlen1, hv1, hl2, hlen2, hb1⟩
  have HL1 := Lib.hid hl1
  have HD1 := Lib.hid hd1
  have HV1 := Lib.hid hv1
  have HL2 := Lib.hid hl2
  have HN2 := Lib.hid hlen2
  have HB1 := Lib.hid hb1
  have hn1 : n1 ≤ 1000000 := by omega
  have hn2 : n2 ≤ n' := by
    rw [← hlen2, ← HNY.out]
    exact digs_len_mono (by decide) (Nat.le_of_lt (Nat.mod_lt _ HY0.out))
  obtain ⟨ca0, ca1⟩ := (HA.out.new hb1).cells
  obtain ⟨cb0, cb1⟩ := (HB.out.new hb1).cells
  clear hl1 hd1 hlen1 hv1 hl2 hlen2 hb1
  go_wp2_with fail
  refine (normal_any (s != s') o A1 n1 c1 w1 HD1.out HL1.out hn1).mono ?_
  rw [HV1.out]
  rintro e w2 ⟨s2, A3, n3, c3, rfl, hr2, hb2⟩
  obtain ⟨w3, hw3⟩ : ∃ w3, w2.alloc (.cells #[.bool s2, .slice A3 n3 c3] 25) = w3 := ⟨_, rfl⟩
  have HB3 := Lib.hid (show Below W.heap.size W w3 by rw [← hw3]; exact (HB1.out.trans (hb2.mono HB1.out.size)).alloc (HB1.out.trans (hb2.mono HB1.out.size)).size _)
  have HB13 := Lib.hid (show Below w1.heap.size w1 w3 by rw [← hw3]; exact hb2.alloc hb2.size _)
  have HP8 := Lib.hid (show P2 25 w3 w2.heap.size (.bool s2) (.slice A3 n3 c3) by rw [← hw3]; exact P2.lit _ _ _ _)
  have HR8 := Lib.hid (show RN w3 s2 A3 n3 c3 (sgn (s != s') (x.natAbs / y.natAbs)) by rw [← hw3]; exact hr2.new ((Below.refl _ _).alloc (Nat.le_refl _) _))
  have h78 : W.heap.size ≤ w2.heap.size := Nat.le_trans HB1.out.size hb2.size
  have hws : w.heap.size + 1 + 1 + 1 < W.heap.size := HR.out.lt
  clear hr2 hb2
  go_wp2_with fail
  refine (normal_any false _ A2 n2 c2 w3 (dig_digs (by decide) (x.natAbs % y.natAbs)) (HL2.out.new HB13.out) (by omega)).mono ?_
  rw [val_digs (by decide), sgn_false]
  rintro e w4 ⟨s4, A4, n4, c4, rfl, hr4, hb4⟩
  obtain ⟨w5, hw5⟩ : ∃ w5, w4.alloc (.cells #[.bool s4, .slice A4 n4 c4] 25) = w5 := ⟨_, rfl⟩
  have HB35 := Lib.hid (show Below w3.heap.size w3 w5 by rw [← hw5]; exact hb4.alloc hb4.size _)
  have HP9 := Lib.hid (show P2 25 w5 w4.heap.size (.bool s4) (.slice A4 n4 c4) by rw [← hw5]; exact P2.lit _ _ _ _)
  have HR9 := Lib.hid (show RN w5 s4 A4 n4 c4 ((x.natAbs % y.natAbs : Nat) : Int) by rw [← hw5]; exact hr4.new ((Below.refl _ _).alloc (Nat.le_refl _) _))
  have HB5 := Lib.hid (HB3.out.trans (HB35.out.mono HB3.out.size))
  have HP8' := Lib.hid (HP8.out.new HB35.out)
  have h89 : w2.heap.size < w4.heap.size := Nat.lt_of_lt_of_le HP8.out.lt hb4.size
  clear hr4 hb4 hw3
  obtain ⟨ca0, ca1⟩ := (HA.out.new HB5.out).cells
  obtain ⟨cb0, cb1⟩ := (HB.out.new HB5.out).cells
  obtain ⟨c80, c81⟩ := HP8'.out.cells
  obtain ⟨c90, c91⟩ := HP9.out.cells
  have HZQ := Lib.hid (HQ.out.new HB5.out)
  have HZR := Lib.hid (HR.out.new HB5.out)
  obtain ⟨q0, q1⟩ := HZQ.out.cells
  obtain ⟨r0, r1⟩ := HZR.out.cells
  have fq0 := HZQ.out.frozen 0
  have fq1 := HZQ.out.frozen 1
  have fr0 := HZR.out.frozen 0
  have fr1 := HZR.out.frozen 1
  by_cases hcase : s = true ∧ 0 < n4
  · obtain ⟨rfl, hn40⟩ := hcase
    have HDV := Lib.hid (div_b HSX.out HSY.out HYY.out rfl (by
      have := HR9.out.2.1
      rw [Int.natAbs_natCast] at this
      intro h0
      rw [h0, digs_zero, List.length_nil] at this
      omega))
    have e1 : w.heap.size + 1 + 1 ≠ w2.heap.size := by omega
    have e2 : w.heap.size + 1 + 1 ≠ w4.heap.size := by omega
    have e3 : w.heap.size + 1 + 1 + 1 ≠ w2.heap.size := by omega
    have e4 : w.heap.size + 1 + 1 + 1 ≠ w4.heap.size := by omega
    have e5 : w2.heap.size ≠ w4.heap.size := by omega
    have HLit := Lib.hid (LI.own (l := [1]) (own_lit .i64 w5 3 [1]))
    go_wp2_with fail
    refine (normal_any (!s') [1] _ 1 1 (w5.alloc (.cells #[.int .i64 1] 3)) (dig_cons.2 ⟨by decide, dig_nil⟩) HLit.out (by decide)).mono ?_
    rw [val_one, show (!s') = (true != s') by cases s' <;> rfl]
    rintro e w6 ⟨s6, A6, n6, c6, rfl, hr6, hb6⟩
    obtain ⟨w7, hw7⟩ : ∃ w7, w6.alloc (.cells #[.bool s6, .slice A6 n6 c6] 25) = w7 := ⟨_, rfl⟩
    have HB57 := Lib.hid (show Below w5.heap.size w5 w7 by
      rw [← hw7]
      have h1 := ((Below.refl w5.heap.size w5).alloc (Nat.le_refl _) (.cells #[.int .i64 1] 3)).trans (hb6.mono (by simp))
      exact h1.alloc h1.size _)
    have HP10 := Lib.hid (show P2 25 w7 w6.heap.size (.bool s6) (.slice A6 n6 c6) by rw [← hw7]; exact P2.lit _ _ _ _)
    have HR10 := Lib.hid (show RN w7 s6 A6 n6 c6 (sgn (true != s') 1) by rw [← hw7]; exact hr6.new ((Below.refl _ _).alloc (Nat.le_refl _) _))
    have hn6 : n6 ≤ 1 := by
      have := hr6.2.1
      rw [sgn_abs] at this
      rw [← this]
      exact digs_len_le (by decide) (by decide)
    have HS6 := Lib.hid (show w5.heap.size ≤ w6.heap.size by have := hb6.size; simp at this; omega)
    clear hr6 hb6
    have HP8'' := Lib.hid (HP8'.out.new HB57.out)
    obtain ⟨c80, c81⟩ := HP8''.out.cells
    obtain ⟨c100, c101⟩ := HP10.out.cells
    have hn4 : n4 ≤ n' := by
      have := HR9.out.2.1
      rw [Int.natAbs_natCast, HN2.out] at this
      omega
    have hn3 : n3 ≤ n := by
      have := HR8.out.2.1
      rw [sgn_abs] at this
      rw [← this, ← HNX.out]
      exact digs_len_mono (by decide) (Nat.div_le_self _ _)
    have hsz6 : w4.heap.size < w6.heap.size := by
      have h1 := HP9.out.lt
      have h2 := HS6.out
      omega
    go_wp2_with fail
    refine (add_any _ _ s2 s6 A3 A6 n3 c3 n6 c6 w7 ((HR8.out.new HB35.out).new HB57.out) HR10.out (by omega) (by omega)).mono ?_
    rw [HDV.out.1]
    rintro e w8 ⟨s8, A8, n8, c8, rfl, hr8, hb8⟩
    have HB58 := Lib.hid (HB57.out.trans (hb8.mono HB57.out.size))
    have HP8a := Lib.hid (HP8''.out.new hb8)
    have HRQ := Lib.hid hr8
    clear hr8 hb8
    obtain ⟨g80, g81⟩ := HP8a.out.cells
    have gf0 := HP8a.out.frozen 0
    have gf1 := HP8a.out.frozen 1
    obtain ⟨w9, hw9⟩ : ∃ w9, (w8.setCell ⟨w2.heap.size, 0, none⟩ (.bool s8)).setCell ⟨w2.heap.size, 1, none⟩ (.slice A8 n8 c8) = w9 := ⟨_, rfl⟩
    have HP8b := Lib.hid (show P2 25 w9 w2.heap.size (.bool s8) (.slice A8 n8 c8) by rw [← hw9]; exact HP8a.out.all _ _)
    have HRQ9 := Lib.hid (show RN w9 s8 A8 n8 c8 (x / y) by rw [← hw9]; exact ⟨HRQ.out.1, HRQ.out.2.1, HRQ.out.2.2.box HP8a.out rfl rfl _ _⟩)
    have HL49 := Lib.hid (show LI .i64 w9 (.slice A4 n4 c4) (digs 10000 (x.natAbs % y.natAbs)) by
      rw [← hw9]
      have := (HR9.out.2.2.new HB58.out).box HP8a.out rfl rfl (.bool s8) (.slice A8 n8 c8)
      rwa [Int.natAbs_natCast] at this)
    have HLY9 := Lib.hid (show LI .i64 w9 (.slice A' n' c') (digs 10000 y.natAbs) by
      rw [← hw9]
      exact (((HLY.out.new HK.out).new HB5.out).new HB58.out).box HP8a.out rfl rfl (.bool s8) (.slice A8 n8 c8))
    have HB9 := Lib.hid (show P2 25 w9 (w.heap.size + 1) (.bool s') (.slice A' n' c') by rw [← hw9]; exact ((HB.out.new HB5.out).new HB58.out).far2 (by omega) _ _)
    have HP9b := Lib.hid (show P2 25 w9 w4.heap.size (.bool s4) (.slice A4 n4 c4) by rw [← hw9]; exact (HP9.out.new HB58.out).far2 (by omega) _ _)
    have HZQ9 := Lib.hid (show P2 25 w9 (w.heap.size + 1 + 1) (.bool false) (.slice none 0 0) by rw [← hw9]; exact (HZQ.out.new HB58.out).far2 (by omega) _ _)
    have HZR9 := Lib.hid (show P2 25 w9 (w.heap.size + 1 + 1 + 1) (.bool false) (.slice none 0 0) by rw [← hw9]; exact (HZR.out.new HB58.out).far2 (by omega) _ _)
    have HBW9 := Lib.hid (show Below w.heap.size w w9 by
      rw [← hw9]
      have h1 := HK.out.trans (HB5.out.mono HK.out.size)
      exact below_box (h1.trans (HB58.out.mono h1.size)) (by omega) _ _)
    obtain ⟨cb90, cb91⟩ := HB9.out.cells
    obtain ⟨c990, c991⟩ := HP9b.out.cells
    go_wp2_with fail
    refine (minus_any _ _ A' A4 n' n4 c' c4 w9 (dig_digs (by decide) y.natAbs) (dig_digs (by decide) (x.natAbs % y.natAbs)) HLY9.out HL49.out (by omega) (by omega) (by rw [val_digs (by decide), val_digs (by decide)]; exact Nat.le_of_lt (Nat.mod_lt _ HY0.out))).mono ?_
    rw [val_digs (by decide), val_digs (by decide)]
    rintro e w10 ⟨A10, n10, c10, o10, rfl, hli10, hlo10, hd10, ⟨hv10, hlen10⟩, hb10⟩
    have HV10 := Lib.hid hv10
    have HB10 := Lib.hid hb10
    have hn10 : n10 ≤ 150000 := by omega
    have HL10 := Lib.hid hli10.weak
    have HD10 := Lib.hid hd10
    clear hli10 hlo10 hd10 hv10 hlen10 hb10 hw9
    go_wp2_with fail
    refine (normal_any false o10 A10 n10 c10 w10 HD10.out HL10.out (by omega)).mono ?_
    rw [HV10.out, sgn_false, HDV.out.2]
    rintro e w11 ⟨s11, A11, n11, c11, rfl, hr11, hb11⟩
    have HB11 := Lib.hid (HB10.out.trans (hb11.mono HB10.out.size))
    have HP9c := Lib.hid (HP9b.out.new HB11.out)
    have HRR := Lib.hid hr11
    obtain ⟨g90, g91⟩ := HP9c.out.cells
    have gf90 := HP9c.out.frozen 0
    have gf91 := HP9c.out.frozen 1
    clear hr11 hb11
    obtain ⟨w12, hw12⟩ : ∃ w12, (w11.setCell ⟨w4.heap.size, 0, none⟩ (.bool s11)).setCell ⟨w4.heap.size, 1, none⟩ (.slice A11 n11 c11) = w12 := ⟨_, rfl⟩
    have HP9d := Lib.hid (show P2 25 w12 w4.heap.size (.bool s11) (.slice A11 n11 c11) by rw [← hw12]; exact HP9c.out.all _ _)
    have HP8d := Lib.hid (show P2 25 w12 w2.heap.size (.bool s8) (.slice A8 n8 c8) by rw [← hw12]; exact (HP8b.out.new HB11.out).far2 (by omega) _ _)
    have HZQ12 := Lib.hid (show P2 25 w12 (w.heap.size + 1 + 1) (.bool false) (.slice none 0 0) by rw [← hw12]; exact (HZQ9.out.new HB11.out).far2 (by omega) _ _)
    have HZR12 := Lib.hid (show P2 25 w12 (w.heap.size + 1 + 1 + 1) (.bool false) (.slice none 0 0) by rw [← hw12]; exact (HZR9.out.new HB11.out).far2 (by omega) _ _)
    have HRQ12 := Lib.hid (show RN w12 s8 A8 n8 c8 (x / y) by rw [← hw12]; exact ⟨HRQ9.out.1, HRQ9.out.2.1, (HRQ9.out.2.2.new HB11.out).box HP9c.out rfl rfl _ _⟩)
    have HRR12 := Lib.hid (show RN w12 s11 A11 n11 c11 (x % y) by rw [← hw12]; exact ⟨HRR.out.1, HRR.out.2.1, HRR.out.2.2.box HP9c.out rfl rfl _ _⟩)
    have HBW12 := Lib.hid (show Below w.heap.size w w12 by
      rw [← hw12]
      exact below_box (HBW9.out.trans (HB11.out.mono HBW9.out.size)) (by omega) _ _)
    have HFIN := Lib.hid (two_stored (w := w12.drew) HZQ12.out HZR12.out rfl rfl (by omega) HRQ12.out HRR12.out HBW12.out.drew (by omega) (by omega))
    obtain ⟨i80, i81⟩ := HP8d.out.cells
    obtain ⟨i90, i91⟩ := HP9d.out.cells
    obtain ⟨q0, q1⟩ := HZQ12.out.cells
    obtain ⟨r0, r1⟩ := HZR12.out.cells
    have fq0 := HZQ12.out.frozen 0
    have fq1 := HZQ12.out.frozen 1
    have fr0 := HZR12.out.frozen 0
    have fr1 := HZR12.out.frozen 1
    go_wp2_with fail
    go_region
    go_wp2
    exact bodyPost_ret (results_cell2 rfl _ _ _ _ _ _ _ _ _ _ _ _ rfl rfl HFIN.out.1 HFIN.out.2.1 Try.underlying25 rfl N_size Try.underlying25 rfl N_size) rfl HFIN.out.2.2
  · have HDV := Lib.hid (div_a HSX.out HSY.out HYY.out (by
      have := HR9.out.2.1
      rw [Int.natAbs_natCast] at this
      cases s
      · exact .inl rfl
      · have h0 : n4 = 0 := by
          rcases Nat.eq_zero_or_pos n4 with h | h
          · exact h
          · exact absurd ⟨rfl, h⟩ hcase
        rw [h0] at this
        exact .inr ((digs_nil (by decide)).1 (List.eq_nil_of_length_eq_zero this))))
    have e1 : w.heap.size + 1 + 1 ≠ w2.heap.size := by omega
    have e2 : w.heap.size + 1 + 1 ≠ w4.heap.size := by omega
    have e3 : w.heap.size + 1 + 1 + 1 ≠ w2.heap.size := by omega
    have e4 : w.heap.size + 1 + 1 + 1 ≠ w4.heap.size := by omega
    have e5 : w2.heap.size ≠ w4.heap.size := by omega
    have HFIN := Lib.hid (two_stored (w := w5.drew) HZQ.out HZR.out rfl rfl (by omega) ((HR8.out.new HB35.out).eq HDV.out.1) (HR9.out.eq HDV.out.2) (HK.out.trans (HB5.out.mono HK.out.size)).drew (by omega) (by omega))
    cases s
    · clear hcase
      go_wp2_with fail
      go_region
      go_wp2
      exact bodyPost_ret (results_cell2 rfl _ _ _ _ _ _ _ _ _ _ _ _ rfl rfl HFIN.out.1 HFIN.out.2.1 Try.underlying25 rfl N_size Try.underlying25 rfl N_size) rfl HFIN.out.2.2
    · have hn40 : ¬ 0 < n4 := fun h => hcase ⟨rfl, h⟩
      clear hcase
      go_wp2_with fail
      go_region
      go_wp2
      exact bodyPost_ret (results_cell2 rfl _ _ _ _ _ _ _ _ _ _ _ _ rfl rfl HFIN.out.1 HFIN.out.2.1 Try.underlying25 rfl N_size Try.underlying25 rfl N_size) rfl HFIN.out.2.2
end Go.Proofs.Ytpcliampffeknaa
