/- The contract of the program's Div. -/
import Derived.Test.YtpcliampffeknaaNPg
namespace Go.Proofs.Ytpcliampffeknaa
open Go.RowKit
attribute [local go_sem ↓] Go.wp_at_zero Go.wp_at_succ

theorem results_cell3 {P : Program} {fn : Func} {p q u : Tmp} {ty ty' : TypeId} (h : fn.results = #[.cell p ty, .cell q ty', .tmp u]) (tmps : Array Value) (w : World) (g g' : Nat) (t t' : TypeId) (cs cs' : Array Value) (fr fr' : Nat × Nat) (d d' : TypeDesc)
    (hp : tmps.getD p undef = .pointer (some ⟨g, 0, none⟩)) (hq : tmps.getD q undef = .pointer (some ⟨g', 0, none⟩)) (hg : w.heap[g]? = some (.cells cs t fr)) (hg' : w.heap[g']? = some (.cells cs' t' fr'))
    (hu : P.underlying ty = some d) (hd : (match d with | .struct _ | .array _ _ => true | _ => false) = true) (hi : (P.info? ty).map (·.size) = some cs.size)
    (hu' : P.underlying ty' = some d') (hd' : (match d' with | .struct _ | .array _ _ => true | _ => false) = true) (hi' : (P.info? ty').map (·.size) = some cs'.size) :
    (results fn tmps).run P w = .ok (.tuple #[.agg cs, .agg cs', tmps.getD u undef]) w := by
  have hp' : tmps[p]?.getD undef = .pointer (some ⟨g, 0, none⟩) := by simpa using hp
  have hq' : tmps[q]?.getD undef = .pointer (some ⟨g', 0, none⟩) := by simpa using hq
  simp [results, h, hp', hq', asAddr, run_loadVar_row w g t ty cs fr d hg hu hd hi, run_loadVar_row w g' t' ty' cs' fr' d' hg' hu' hd' hi']
/-- What Div returns. -/
def RetP2 (x y code : Int) (w : World) (e : Ending) (w' : World) : Prop := ∃ s A n c s' A' n' c', e = .returned (.tuple #[.agg #[.bool s, .slice A n c], .agg #[.bool s', .slice A' n' c'], .int .i64 code]) ∧ PI w' s A n c x ∧ PI w' s' A' n' c' y ∧ Below w.heap.size w w'
theorem two_storedP {t : TypeId} {w0 w : World} {g g' : Nat} {z0 z1 : Value} {x y code : Int} {s s' : Bool} {A A' : Option Addr} {n c n' c' : Nat} (hq : P2 t w g z0 z1) (hr : P2 t w g' z0 z1) (h0 : isI z0 = false) (h1 : isI z1 = false) (hne : g ≠ g') (hx : PI w s A n c x) (hy : PI w s' A' n' c' y) (hb : Below w0.heap.size w0 w) (hg : w0.heap.size ≤ g) (hg' : w0.heap.size ≤ g') :
    P2 t (WQ w g g' (.bool s) (.slice A n c) (.bool s') (.slice A' n' c')) g (.bool s) (.slice A n c) ∧ P2 t (WQ w g g' (.bool s) (.slice A n c) (.bool s') (.slice A' n' c')) g' (.bool s') (.slice A' n' c') ∧
    RetP2 x y code w0 (.returned (.tuple #[.agg #[.bool s, .slice A n c], .agg #[.bool s', .slice A' n' c'], .int .i64 code])) (WQ w g g' (.bool s) (.slice A n c) (.bool s') (.slice A' n' c')) := by
  have hr' := hr.far2 (g := g) hne.symm (.bool s) (.slice A n c)
  exact ⟨(hq.all _ _).far2 hne _ _, hr'.all _ _, s, A, n, c, s', A', n', c', rfl, (hx.box hq h0 h1 _ _).box hr' h0 h1 _ _, (hy.box hq h0 h1 _ _).box hr' h0 h1 _ _, below_box (below_box hb hg _ _) hg' _ _⟩
theorem cmpI_zero {y : Int} (h : y ≠ 0) : (cmpI y 0 == 0) = false := by
  rw [beq_eq_false_iff_ne]
  unfold cmpI
  split <;> (try split) <;> omega

set_option maxRecDepth 100000 in
set_option maxHeartbeats 1600000 in
theorem pdiv_zero (s s' : Bool) (A A' : Option Addr) (n c n' c' : Nat) (w : World) (hy : PI w s' A' n' c' 0) (hn' : n' ≤ 100000) :
    Calls Try.prog 27 #[.agg #[.bool s, .slice A n c], .agg #[.bool s', .slice A' n' c']] w (RetP2 0 0 1 w) := by
  obtain ⟨W, hW⟩ : ∃ W, (((w.alloc (.cells #[.bool s, .slice A n c] 33)).alloc (.cells #[.bool s', .slice A' n' c'] 33)).alloc (.cells #[.bool false, .slice none 0 0] 33)).alloc (.cells #[.bool false, .slice none 0 0] 33) = W := ⟨_, rfl⟩
  obtain ⟨fa, fb, fq, fr, fk, fs⟩ := W4_facts _ _ _ _ _ _ _ _ _ hW
  have HY := Lib.hid (hy.new fk)
  have HB := Lib.hid fb
  have HQ := Lib.hid fq
  have HR := Lib.hid fr
  have HK := Lib.hid fk
  obtain ⟨cb0, cb1⟩ := fb.cells
  clear hy fa fb fq fr fk fs
  go_enter Try.func27, Try.ntmps27
  go_wp2_with fail
  refine (sign_any 0 s' A' n' c' W HY.out (by omega)).mono ?_
  rintro e w1 ⟨rfl, hb1⟩
  rw [show cmpI 0 0 = 0 from rfl]
  have HQ1 := Lib.hid (HQ.out.new hb1)
  have HR1 := Lib.hid (HR.out.new hb1)
  obtain ⟨q0, q1⟩ := HQ1.out.cells
  obtain ⟨r0, r1⟩ := HR1.out.cells
  have fq0 := HQ1.out.frozen 0
  have fq1 := HQ1.out.frozen 1
  have fr0 := HR1.out.frozen 0
  have fr1 := HR1.out.frozen 1
  have HFIN := Lib.hid (two_storedP (code := 1) HQ1.out HR1.out rfl rfl (by omega) (PI.zero w1) (PI.zero w1) (HK.out.trans (hb1.mono HK.out.size)) (by omega) (by omega))
  clear hb1
  go_wp2
  refine bodyPost_ret (results_cell3 rfl _ _ _ _ _ _ _ _ _ _ _ _ rfl rfl HFIN.out.1 HFIN.out.2.1 Try.underlying33 rfl W_size Try.underlying33 rfl W_size) rfl ?_
  exact HFIN.out.2.2

set_option maxRecDepth 100000 in
set_option maxHeartbeats 3200000 in
theorem pdiv_any (x y : Int) (s s' : Bool) (A A' : Option Addr) (n c n' c' : Nat) (w : World) (hx : PI w s A n c x) (hy : PI w s' A' n' c' y) (hn : n ≤ 100000) (hn' : n' ≤ 100000) (hy0 : y ≠ 0) :
    Calls Try.prog 27 #[.agg #[.bool s, .slice A n c], .agg #[.bool s', .slice A' n' c']] w (RetP2 (x / y) (x % y) 0 w) := by
  have HSX := Lib.hid hx.1
  have HSY := Lib.hid hy.1
  have HNX := Lib.hid hx.2.1
  have HNY := Lib.hid hy.2.1
  have HY0 := Lib.hid (show 0 < y.natAbs by omega)
  have HYY := Lib.hid hy0
  obtain ⟨W, hW⟩ : ∃ W, (((w.alloc (.cells #[.bool s, .slice A n c] 33)).alloc (.cells #[.bool s', .slice A' n' c'] 33)).alloc (.cells #[.bool false, .slice none 0 0] 33)).alloc (.cells #[.bool false, .slice none 0 0] 33) = W := ⟨_, rfl⟩
  obtain ⟨fa, fb, fq, fr, fk, fs⟩ := W4_facts _ _ _ _ _ _ _ _ _ hW
  have HLX := Lib.hid (hx.2.2.new fk)
  have HY := Lib.hid (hy.new fk)
  have HA := Lib.hid fa
  have HB := Lib.hid fb
  have HQ := Lib.hid fq
  have HR := Lib.hid fr
  have HK := Lib.hid fk
  obtain ⟨cb0, cb1⟩ := fb.cells
  have hws : w.heap.size + 1 + 1 + 1 < W.heap.size := fr.lt
  clear hx hy hy0 fa fb fq fr fk fs
  go_enter Try.func27, Try.ntmps27
  go_wp2_with fail
  refine (sign_any y s' A' n' c' W HY.out (by omega)).mono ?_
  rintro e w1 ⟨rfl, hb1⟩
  obtain ⟨v, hv⟩ : ∃ v, cmpI y 0 = v := ⟨_, rfl⟩
  have hv0 : (v == 0) = false := by rw [← hv]; exact cmpI_zero HYY.out
  rw [hv]
  clear hv
  have HB1 := Lib.hid hb1
  obtain ⟨ca10, ca11⟩ := (HA.out.new hb1).cells
  obtain ⟨cb10, cb11⟩ := (HB.out.new hb1).cells
  clear hb1 cb0 cb1 hW
  go_wp2_with fail
  refine (dividedp_any x.natAbs y.natAbs A A' n n' c c' w1 (HLX.out.new HB1.out) (HY.out.2.2.new HB1.out) (by omega) HY0.out).mono ?_
  rintro e w2 ⟨A1, n1, c1, A2, n2, c2, rfl, hl1, hn1, hl2, hn2, hb2⟩
  have HL1 := Lib.hid hl1
  have HN1 := Lib.hid hn1
  have HL2 := Lib.hid hl2
  have HN2 := Lib.hid hn2
  have HB2 := Lib.hid (HB1.out.trans (hb2.mono HB1.out.size))
  have hn1b : n1 ≤ n := by rw [← hn1, ← HNX.out]; exact digs_len_mono (by decide) (Nat.div_le_self _ _)
  have hn2b : n2 ≤ n' := by rw [← hn2, ← HNY.out]; exact digs_len_mono (by decide) (Nat.le_of_lt (Nat.mod_lt _ HY0.out))
  obtain ⟨ca20, ca21⟩ := (HA.out.new HB2.out).cells
  obtain ⟨cb20, cb21⟩ := (HB.out.new HB2.out).cells
  clear hl1 hn1 hl2 hn2 hb2 ca10 ca11 cb10 cb11
  by_cases hcase : s = true ∧ 0 < n2
  · obtain ⟨rfl, hn20⟩ := hcase
    have HDV := Lib.hid (div_b HSX.out HSY.out HYY.out rfl (by
      intro h0
      have := HN2.out
      rw [h0, digs_zero, List.length_nil] at this
      omega))
    have HQV := Lib.hid (show sgn (!s') (x.natAbs / y.natAbs + 1) = x / y by
      rw [← HDV.out.1, show (!s') = (true != s') by cases s' <;> rfl]
      unfold sgn
      split <;> omega)
    have HLT := Lib.hid (Nat.mod_lt x.natAbs HY0.out)
    have HDO := Lib.hid (dig_cons.2 ⟨by decide, dig_nil⟩ : Dig 4294967296 [1])
    go_wp2_with fail
    have HL1' := Lib.hid (HL1.out.drew)
    have HL2' := Lib.hid (HL2.out.drew)
    have HK3 := Lib.hid (show Below w2.heap.size w2 (w2.alloc (.cells #[.int .u32 1] 75)).drew from ((Below.refl _ w2).alloc (Nat.le_refl _) _).drew)
    have HLit := Lib.hid (show LI .u32 (w2.alloc (.cells #[.int .u32 1] 75)).drew (.slice (some ⟨w2.heap.size, 0, none⟩) 1 1) [1] from (LI.own (l := [1]) (own_lit .u32 w2 75 [1])).drew)
    have HLE := Lib.hid (show val 4294967296 (digs 4294967296 (x.natAbs % y.natAbs)) ≤ val 4294967296 (digs 4294967296 y.natAbs) by
      rw [val_digs (by decide), val_digs (by decide)]; exact Nat.le_of_lt HLT.out)
    go_region_held3 (fun w' => w'.cell? ⟨w.heap.size + 1, 1, none⟩ = some (.slice A' n' c')) (first | assumption | exact cb21 | exact ((HB.out.new HB2.out).new HK3.out).cells.2 | go_keep)
      (first | (go_at_call 61; refine (sum_any _ [1] A1 _ n1 1 c1 1 _ (dig_digs (by decide) (x.natAbs / y.natAbs)) HDO.out (HL1.out.new HK3.out) HLit.out (by omega) (by decide)).mono ?_; rintro e w5 ⟨G5, n5, o5, rfl, hg5, hblk5, hol5, hod5, ⟨hov5, hon5⟩, hb5⟩; have HB5 := Lib.hid (HK3.out.trans (hb5.mono HK3.out.size)); have hB5 := Lib.hid ((HB.out.new HB2.out).new HB5.out); have hS5 := hB5.out.cells.2; have hn5 : n5 ≤ 1000000 := (by omega); have HV5 := Lib.hid hov5; have HBK5 := Lib.hid hblk5; have HOL5 := Lib.hid hol5; have HOD5 := Lib.hid hod5; clear hov5 hon5 hol5 hblk5 hod5 hb5) | (go_at_call 62; refine (difference_any _ _ A' A2 n' n2 c' c2 _ (dig_digs (by decide) y.natAbs) (dig_digs (by decide) (x.natAbs % y.natAbs)) ((HY.out.2.2.new HB2.out).new HB5.out) (HL2.out.new HB5.out) (by omega) (by omega) HLE.out).mono ?_; rintro e w6 ⟨G6, n6, o6, rfl, hg6, hblk6, hol6, hod6, ⟨hov6, hon6⟩, hb6⟩; have hS6 := (hB5.out.new hb6).cells.2; have HB6 := Lib.hid (HB2.out.trans ((HB5.out.trans (hb6.mono HB5.out.size)).mono HB2.out.size)); have hn6 : n6 ≤ 1000000 := (by omega); have HV6 := Lib.hid hov6; have HL6 := Lib.hid (hblk6.li0 hol6 (Nat.le_refl _)).weak; have HL5 := Lib.hid ((HBK5.out.new hb6).li0 HOL5.out (Nat.le_refl _)).weak; have HOD6 := Lib.hid hod6; clear hov6 hon6 hol6 hblk6 hod6 hb6))
    have HVQ := Lib.hid (show sgn (!s') (val 4294967296 o5) = x / y by
      rw [HV5.out, val_digs (by decide)]; exact HQV.out)
    have HVR := Lib.hid (show sgn false (val 4294967296 o6) = x % y by
      rw [HV6.out, val_digs (by decide), val_digs (by decide), sgn_false]; exact HDV.out.2)
    obtain ⟨ca60, ca61⟩ := (HA.out.new HB6.out).cells
    obtain ⟨cb60, cb61⟩ := (HB.out.new HB6.out).cells
    clear ca20 ca21 cb20 cb21 hS5 hS6
    go_wp2_with fail
    refine (signed_any (!s') _ _ n5 n5 w6 HOD5.out HL5.out (by omega)).mono ?_
    rw [HVQ.out]
    rintro e w7 ⟨s7, A7, n7, c7, rfl, hr7, hb7⟩
    have HR7 := Lib.hid hr7
    have HB7 := Lib.hid hb7
    clear hr7 hb7
    go_wp2_with fail
    refine (signed_any false _ _ n6 n6 w7 HOD6.out (LO.new HL6.out HB7.out) (by omega)).mono ?_
    rw [HVR.out]
    rintro e w8 ⟨s8, A8, n8, c8, rfl, hr8, hb8⟩
    have HB8 := Lib.hid (HB6.out.trans ((HB7.out.trans (hb8.mono HB7.out.size)).mono HB6.out.size))
    have HZQ := Lib.hid (HQ.out.new HB8.out)
    have HZR := Lib.hid (HR.out.new HB8.out)
    obtain ⟨q0, q1⟩ := HZQ.out.cells
    obtain ⟨r0, r1⟩ := HZR.out.cells
    have fq0 := HZQ.out.frozen 0
    have fq1 := HZQ.out.frozen 1
    have fr0 := HZR.out.frozen 0
    have fr1 := HZR.out.frozen 1
    have HFIN := Lib.hid (two_storedP (code := 0) HZQ.out HZR.out rfl rfl (by omega) (HR7.out.new hb8) hr8 (HK.out.trans (HB8.out.mono HK.out.size)) (by omega) (by omega))
    clear hr8 hb8
    go_wp2
    refine bodyPost_ret (results_cell3 rfl _ _ _ _ _ _ _ _ _ _ _ _ rfl rfl HFIN.out.1 HFIN.out.2.1 Try.underlying33 rfl W_size Try.underlying33 rfl W_size) rfl ?_
    exact HFIN.out.2.2
  · have HDV := Lib.hid (div_a HSX.out HSY.out HYY.out (by
      have := HN2.out
      cases s
      · exact .inl rfl
      · have h0 : n2 = 0 := by
          rcases Nat.eq_zero_or_pos n2 with h | h
          · exact h
          · exact absurd ⟨rfl, h⟩ hcase
        rw [h0] at this
        exact .inr ((digs_nil (by decide)).1 (List.eq_nil_of_length_eq_zero this))))
    cases s
    · clear hcase
      have HSG := Lib.hid (show sgn s' (x.natAbs / y.natAbs) = x / y by
        rw [← HDV.out.1, show (false != s') = s' by cases s' <;> rfl])
      go_wp2_with fail
      refine (signed_any s' _ A1 n1 c1 w2 (dig_digs (by decide) (x.natAbs / y.natAbs)) HL1.out (by omega)).mono ?_
      rw [val_digs (by decide), HSG.out]
      rintro e w7 ⟨s7, A7, n7, c7, rfl, hr7, hb7⟩
      have HR7 := Lib.hid hr7
      have HB7 := Lib.hid hb7
      clear hr7 hb7
      go_wp2_with fail
      refine (signed_any false _ A2 n2 c2 w7 (dig_digs (by decide) (x.natAbs % y.natAbs)) (LO.new HL2.out HB7.out) (by omega)).mono ?_
      rw [val_digs (by decide), sgn_false, HDV.out.2]
      rintro e w8 ⟨s8, A8, n8, c8, rfl, hr8, hb8⟩
      have HB8 := Lib.hid (HB2.out.trans ((HB7.out.trans (hb8.mono HB7.out.size)).mono HB2.out.size))
      have HZQ := Lib.hid (HQ.out.new HB8.out)
      have HZR := Lib.hid (HR.out.new HB8.out)
      obtain ⟨q0, q1⟩ := HZQ.out.cells
      obtain ⟨r0, r1⟩ := HZR.out.cells
      have fq0 := HZQ.out.frozen 0
      have fq1 := HZQ.out.frozen 1
      have fr0 := HZR.out.frozen 0
      have fr1 := HZR.out.frozen 1
      have HFIN := Lib.hid (two_storedP (code := 0) HZQ.out HZR.out rfl rfl (by omega) (HR7.out.new hb8) hr8 (HK.out.trans (HB8.out.mono HK.out.size)) (by omega) (by omega))
      clear hr8 hb8
      go_wp2
      refine bodyPost_ret (results_cell3 rfl _ _ _ _ _ _ _ _ _ _ _ _ rfl rfl HFIN.out.1 HFIN.out.2.1 Try.underlying33 rfl W_size Try.underlying33 rfl W_size) rfl ?_
      exact HFIN.out.2.2
    · have hn20 : ¬ 0 < n2 := fun h => hcase ⟨rfl, h⟩
      clear hcase
      have HSG := Lib.hid (show sgn (!s') (x.natAbs / y.natAbs) = x / y by
        rw [← HDV.out.1, show (true != s') = !s' by cases s' <;> rfl])
      go_wp2_with fail
      refine (signed_any (!s') _ A1 n1 c1 w2 (dig_digs (by decide) (x.natAbs / y.natAbs)) HL1.out (by omega)).mono ?_
      rw [val_digs (by decide), HSG.out]
      rintro e w7 ⟨s7, A7, n7, c7, rfl, hr7, hb7⟩
      have HR7 := Lib.hid hr7
      have HB7 := Lib.hid hb7
      clear hr7 hb7
      go_wp2_with fail
      refine (signed_any false _ A2 n2 c2 w7 (dig_digs (by decide) (x.natAbs % y.natAbs)) (LO.new HL2.out HB7.out) (by omega)).mono ?_
      rw [val_digs (by decide), sgn_false, HDV.out.2]
      rintro e w8 ⟨s8, A8, n8, c8, rfl, hr8, hb8⟩
      have HB8 := Lib.hid (HB2.out.trans ((HB7.out.trans (hb8.mono HB7.out.size)).mono HB2.out.size))
      have HZQ := Lib.hid (HQ.out.new HB8.out)
      have HZR := Lib.hid (HR.out.new HB8.out)
      obtain ⟨q0, q1⟩ := HZQ.out.cells
      obtain ⟨r0, r1⟩ := HZR.out.cells
      have fq0 := HZQ.out.frozen 0
      have fq1 := HZQ.out.frozen 1
      have fr0 := HZR.out.frozen 0
      have fr1 := HZR.out.frozen 1
      have HFIN := Lib.hid (two_storedP (code := 0) HZQ.out HZR.out rfl rfl (by omega) (HR7.out.new hb8) hr8 (HK.out.trans (HB8.out.mono HK.out.size)) (by omega) (by omega))
      clear hr8 hb8
      go_wp2
      refine bodyPost_ret (results_cell3 rfl _ _ _ _ _ _ _ _ _ _ _ _ rfl rfl HFIN.out.1 HFIN.out.2.1 Try.underlying33 rfl W_size Try.underlying33 rfl W_size) rfl ?_
      exact HFIN.out.2.2
end Go.Proofs.Ytpcliampffeknaa
